"""The examples of sections 3 to 8 of the document, with the answers printed behind them."""

import unittest

from elderlink.costs import barrier, check_barrier, cost, eased, first_cost, first_stock, greatest_cost, newcomer, whom
from elderlink.costs import worst_stock
from elderlink.deals import check_spread, deal, due, left, spread, together
from elderlink.house import Asker, Line, added, fitting, folded, held, recalled, renamed, taken, total, wanted
from elderlink.orders import alike, chain, check_parting, count_alike, count_unlike, exchanges, forest, group, linked
from elderlink.orders import normal, parent, parting, positions, touched, unlike_lines
from elderlink.papers import check_papers, check_shortage, harmed, papers, shortage
from elderlink.texts import asker_text, deal_text, line_text, read_asker, read_deal, read_line, read_stock, stock_text


class Examples(unittest.TestCase):
    def setUp(self):
        self.ann, self.bob = Asker("ann", ["ab", "a"], 3), Asker("bob", ["a"], 2)
        self.cat = Asker("cat", ["b", "ab", "c"], 4)
        self.line = Line([self.ann, self.bob, self.cat])

    def test_house_lines(self):
        ann, bob, cat, line = self.ann, self.bob, self.cat, self.line
        self.assertEqual(
            [ann.fits, line.names(), line.kinds(), line.place("cat"), line.moved("cat", 0).names(),
             line.without("ann").names(), line.ordered(["bob", "cat", "ann"]) == Line([bob, cat, ann])],
            [['a', 'ab'], ['ann', 'bob', 'cat'], ['a', 'ab', 'b', 'c'], 2, ['cat', 'ann', 'bob'], ['bob', 'cat'], True],
        )

    def test_house_stocks(self):
        line = self.line
        self.assertEqual(
            [line.put_in(Asker("dan", ["d"], 1), 1).names(), line.changed(Asker("bob", ["a"], 1)).asker("bob").most,
             total({"a": 2, "b": 0, "c": 5}), held({"a": 2, "c": 5}, ["c", "d"]), added({"a": 2}, {"a": 1, "b": 0}),
             taken({"a": 2, "b": 1}, {"a": 2})],
            [['ann', 'dan', 'bob', 'cat'], 1, 7, 5, {'a': 3}, {'b': 1}],
        )

    def test_house_folded(self):
        ann, bob, line = self.ann, self.bob, self.line
        self.assertEqual(
            [fitting(line, ["cat", "bob"]), wanted(line, ["ann", "cat"]),
             folded(line, {"b": 1, "c": 2, "ab": 4, "z": 9})
             == (Line([ann, bob, Asker("cat", ["ab", "b"], 4)]), {"ab": 4, "b": 3})],
            [['a', 'ab', 'b', 'c'], 7, True],
        )

    def test_house_renamed(self):
        self.assertEqual(
            [renamed(self.bob, {"a": "b", "b": "a"}).fits,
             renamed({"a": 2, "c": 1}, {"a": "b", "b": "a"}) == {"b": 2, "c": 1},
             recalled(self.line, {"ann": "bob", "bob": "ann"}).names()],
            [['b'], True, ['bob', 'ann', 'cat']],
        )

    def test_texts_written(self):
        self.assertEqual(
            [asker_text(self.ann), stock_text({"b": 2, "a": 10, "c": 0}), stock_text({}),
             deal_text([("ann", 3), ("bob", 0)]), deal_text([])],
            ['ann 3: a, ab', 'a 10, b 2', 'none', 'ann 3, bob 0', 'nobody'],
        )

    def test_texts_read(self):
        line = self.line
        self.assertEqual(
            [read_asker("ann 3: a, ab") == self.ann, read_line(line_text(line)) == line, line_text(Line([self.bob])),
             read_stock("a 10, b 2") == {"a": 10, "b": 2}, read_deal("ann 3, bob 0"), read_line("") == Line([])],
            [True, True, 'bob 2: a', True, [('ann', 3), ('bob', 0)], True],
        )

    def test_deals(self):
        line, some = self.line, {"a": 4, "b": 1, "ab": 2}
        self.assertEqual(
            [together(line, ["ann", "bob"], some), due(line, "bob", ["ann"], some), due(line, "bob", [], some),
             deal(line, some)],
            [5, 2, 2, [('ann', 3), ('bob', 2), ('cat', 2)]],
        )
        self.assertEqual(
            [left(line, some, deal(line, some)), left(line, {"a": 1, "ab": 1}, [("ann", 1), ("bob", 0), ("cat", 0)]),
             spread(line, {"a": 1}, [("ann", 0), ("bob", 0), ("cat", 1)]),
             check_spread(line, some, deal(line, some), [
                 ("ann", "a", 2), ("ann", "ab", 1), ("bob", "a", 2), ("cat", "ab", 1), ("cat", "b", 1)])],
            [{}, {'a': 1}, None, True],
        )

    def test_papers(self):
        line, some = self.line, {"a": 4, "b": 1, "ab": 2}
        self.assertEqual(
            [shortage(line, some, "ann"), shortage(line, some, "cat"),
             check_shortage(line, some, "cat", ["ann", "bob", "cat"]), check_shortage(line, some, "cat", ["cat"])],
            [None, ['ann', 'bob', 'cat'], True, False],
        )
        self.assertEqual(
            [check_papers(line, some, papers(line, some)), papers(line, {"b": 9})[2][0][0],
             harmed(line, line.without("ann"), some), harmed(line.without("ann"), line, some)],
            [True, 'ann', [], ['cat']],
        )


class LinesThatDealAlike(unittest.TestCase):
    def setUp(self):
        ann, bob = Asker("ann", ["o"], 1), Asker("bob", ["o", "a"], 2)
        cid, dan = Asker("cid", ["a"], 1), Asker("dan", ["b"], 1)
        self.first, self.second = Line([bob, ann, cid, dan]), Line([ann, cid, bob, dan])
        self.third = Line([dan, cid, ann, bob])

    def test_links(self):
        first, second = self.first, self.second
        self.assertEqual(
            [linked(first, "ann", "cid"), group(first, "cid"), chain(first, "cid", "ann"), group(second, "cid"),
             chain(second, "cid", "ann"), parent(second, "ann")],
            [False, ['bob', 'ann', 'cid'], ['ann', 'bob', 'cid'], ['cid'], None, 'bob'],
        )
        self.assertEqual(
            [forest(first), forest(second), alike(first, second),
             check_parting(first, second, ({"o": 1, "a": 1}, "ann")),
             check_parting(first, second, parting(first, second))],
            [[('bob', 'ann'), ('ann', 'cid'), ('cid', None), ('dan', None)],
             [('ann', 'bob'), ('cid', 'bob'), ('bob', None), ('dan', None)], False, True, True],
        )

    def test_orders(self):
        first, second, third = self.first, self.second, self.third
        self.assertEqual(
            [count_unlike(first), [each.names()[:3] for each in unlike_lines(first)]],
            [5, [['ann', 'bob', 'cid'], ['ann', 'cid', 'bob'], ['bob', 'ann', 'cid'], ['bob', 'cid', 'ann'],
                 ['cid', 'bob', 'ann']]],
        )
        self.assertEqual(
            [alike(second, third), parting(second, third), normal(third) == second, count_alike(first),
             count_alike(second), positions(first, "cid"), positions(second, "dan"), len(exchanges(second, third)),
             exchanges(first, second), touched(first, "bob"), touched(second, "cid")],
            [True, None, True, 4, 8, (2, 3), (0, 3), 4, None, ['ann', 'cid'], ['bob']],
        )

    def test_costs(self):
        first, second = self.first, self.second
        self.assertEqual(
            [cost(first, ["bob"], ["ann", "cid"], {"o": 1, "a": 1}), greatest_cost(first, ["bob"], ["ann", "cid"]),
             greatest_cost(first, ["ann"], ["cid"]), cost(first, ["ann"], ["cid"], {"o": 2, "a": 1}),
             cost(first, ["ann"], ["cid"], {"o": 1, "a": 1})],
            [2, 2, 1, 1, 0],
        )
        self.assertEqual(
            [whom(first, "bob"), whom(first, "ann"), whom(second, "ann"), newcomer(first, Asker("eve", ["b"], 3), 0),
             check_barrier(first, ["ann"], ["cid"], ["bob"]), barrier(first, ["ann"], ["dan"])],
            [[('ann', 1), ('cid', 1)], [('cid', 1)], [('bob', 1)], [('dan', 1)], True, []],
        )
        self.assertEqual(
            [cost(first, ["bob", "ann"], ["cid"], worst_stock(first, ["bob", "ann"], ["cid"])),
             len(eased(first, ["bob"], ["ann", "cid"], 1)), eased(first, ["ann"], ["dan"], 0)],
            [1, 1, []],
        )

    def test_first_costs(self):
        first = self.first
        tri = Line([Asker("x", ["o"], 1), Asker("y", ["o"], 1), Asker("z", ["o"], 1)])
        self.assertEqual(
            [first_cost(first, "bob", "cid"), first_stock(first, "bob", "cid"), first_cost(first, "ann", "cid"),
             first_cost(first, "ann", "dan"), first_cost(tri, "x", "z"), first_stock(tri, "x", "z")],
            [1, {'a': 1}, 3, None, 2, {'o': 2}],
        )
