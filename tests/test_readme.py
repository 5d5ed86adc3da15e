"""The answers that README.md prints behind its calls."""

import pathlib
import re
import unittest

FILE = pathlib.Path(__file__).resolve().parent.parent / "README.md"


class Readme(unittest.TestCase):
    def test_answers(self):
        names, told = {}, 0
        for block in re.findall(r"```python\n(.*?)```", FILE.read_text(encoding="utf-8"), re.S):
            if "try:" in block:
                continue
            for row in block.splitlines():
                call, _, answer = row.partition("  # ")
                expected = self.value_of(answer)
                kept, sign, _ = call.partition(" = ")
                if sign or expected is None:
                    exec(call, names)
                if expected is not None:
                    told += 1
                    self.assertEqual(names[kept] if sign else eval(call, names), expected[0], row)
        self.assertGreater(told, 15)

    def value_of(self, answer):
        """What an answer tells ahead of its remark, in a list; None if it is a remark alone."""
        for end in [len(answer), *[found.start() for found in re.finditer(": |; ", answer)]]:
            try:
                return [eval(answer[:end], {})]
            except (SyntaxError, NameError):
                continue
        return None
