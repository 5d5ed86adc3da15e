"""The examples of sections 3 and 4 of the document, with the answers printed behind them."""

import unittest

from elderlink.house import Asker, Line, added, fitting, folded, held, recalled, renamed, taken, total, wanted
from elderlink.texts import asker_text, deal_text, line_text, read_asker, read_deal, read_line, read_stock, stock_text


class Examples(unittest.TestCase):
    def setUp(self):
        self.ann, self.bob = Asker("ann", ["ab", "a"], 3), Asker("bob", ["a"], 2)
        self.cat = Asker("cat", ["b", "ab", "c"], 4)
        self.line = Line([self.ann, self.bob, self.cat])

    def test_house_lines(self):
        ann, bob, cat, line = self.ann, self.bob, self.cat, self.line
        self.assertEqual(
            [ann.fits, line.names(), line.kinds(), line.place("cat"), line.moved("cat", 0).names(),
             line.without("ann").names(), line.ordered(["bob", "cat", "ann"]) == Line([bob, cat, ann])],
            [['a', 'ab'], ['ann', 'bob', 'cat'], ['a', 'ab', 'b', 'c'], 2, ['cat', 'ann', 'bob'], ['bob', 'cat'], True],
        )

    def test_house_stocks(self):
        line = self.line
        self.assertEqual(
            [line.put_in(Asker("dan", ["d"], 1), 1).names(), line.changed(Asker("bob", ["a"], 1)).asker("bob").most,
             total({"a": 2, "b": 0, "c": 5}), held({"a": 2, "c": 5}, ["c", "d"]), added({"a": 2}, {"a": 1, "b": 0}),
             taken({"a": 2, "b": 1}, {"a": 2})],
            [['ann', 'dan', 'bob', 'cat'], 1, 7, 5, {'a': 3}, {'b': 1}],
        )

    def test_house_folded(self):
        ann, bob, line = self.ann, self.bob, self.line
        self.assertEqual(
            [fitting(line, ["cat", "bob"]), wanted(line, ["ann", "cat"]),
             folded(line, {"b": 1, "c": 2, "ab": 4, "z": 9})
             == (Line([ann, bob, Asker("cat", ["ab", "b"], 4)]), {"ab": 4, "b": 3})],
            [['a', 'ab', 'b', 'c'], 7, True],
        )

    def test_house_renamed(self):
        self.assertEqual(
            [renamed(self.bob, {"a": "b", "b": "a"}).fits,
             renamed({"a": 2, "c": 1}, {"a": "b", "b": "a"}) == {"b": 2, "c": 1},
             recalled(self.line, {"ann": "bob", "bob": "ann"}).names()],
            [['b'], True, ['bob', 'ann', 'cat']],
        )

    def test_texts_written(self):
        self.assertEqual(
            [asker_text(self.ann), stock_text({"b": 2, "a": 10, "c": 0}), stock_text({}),
             deal_text([("ann", 3), ("bob", 0)]), deal_text([])],
            ['ann 3: a, ab', 'a 10, b 2', 'none', 'ann 3, bob 0', 'nobody'],
        )

    def test_texts_read(self):
        line = self.line
        self.assertEqual(
            [read_asker("ann 3: a, ab") == self.ann, read_line(line_text(line)) == line, line_text(Line([self.bob])),
             read_stock("a 10, b 2") == {"a": 10, "b": 2}, read_deal("ann 3, bob 0"), read_line("") == Line([])],
            [True, True, 'bob 2: a', True, [('ann', 3), ('bob', 0)], True],
        )
