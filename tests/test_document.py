"""The examples of the document, section by section, with the answers that it prints behind them."""

import pathlib
import unittest

FILE = pathlib.Path(__file__).resolve().parent / "examples.txt"


def sections():
    """The headings with the rows behind each of them."""
    found = []
    for row in FILE.read_text(encoding="utf-8").splitlines():
        if row.startswith("== "):
            found.append((row[3:], []))
        else:
            found[-1][1].append(row)
    return found


class Examples(unittest.TestCase):
    def test_examples(self):
        # They go on from those ahead of them, so all share their names.
        names, told = {}, 0
        for heading, rows in sections():
            for row, answer in zip(rows, rows[1:] + [""]):
                if row.startswith("# "):
                    continue
                with self.subTest(section=heading, row=row):
                    if answer.startswith("# "):
                        told += 1
                        self.same(eval(row, names), eval(answer[2:], names))
                    else:
                        exec(row, names)
        self.assertGreater(told, 2 * len(sections()))

    def same(self, found, answer):
        self.assertEqual(found, answer)
        self.assertEqual(plain(found), plain(answer))


def plain(value):
    """A value written out, dictionaries in one order, so that True and 1 are not alike."""
    if isinstance(value, dict):
        return f"{{{', '.join(sorted(f'{plain(key)}: {plain(item)}' for key, item in value.items()))}}}"
    if isinstance(value, (list, tuple)):
        return f"{type(value).__name__}({', '.join(plain(item) for item in value)})"
    return repr(value)
