"""[50] and [51]: what askers get together, behind others and by rank."""

import itertools
import unittest

from elderlink.deals import deal, due, together
from elderlink.house import Asker, Line, folded
from tests.samples import BIG, HUGE, dan, trio
from tests.ways import all_givings, all_lines, all_stocks, deal_of, drawn_lines, drawn_stocks, line_of, lots, most_of
from tests.ways import patterned_lines

SOME = {"a": 4, "b": 1, "ab": 2}


def counts_of(pairs):
    return tuple(count for _, count in pairs)


def cases():
    """Small lines, each with small stocks."""
    for many in range(3):
        for line in all_lines(many, "ab", (1, 2)):
            for stock in all_stocks("ab", 3):
                yield line, stock
    for line in patterned_lines(3, "abc"):
        for stock in drawn_stocks(len(line.kinds()), 6, "abc", 3):
            yield line, stock


class ByGoingThrough(unittest.TestCase):
    def test_the_judges_of_these_tests_agree(self):
        for line, stock in cases():
            givings = all_givings(line.askers(), stock)
            self.assertEqual(max(sum(counts) for counts in givings), most_of(line.askers(), stock))

    def test_deal_is_the_first_of_all_givings(self):
        for line, stock in cases():
            givings = all_givings(line.askers(), stock)
            found = deal(line, stock)
            self.assertEqual([name for name, _ in found], line.names())
            self.assertEqual(counts_of(found), max(givings))
            self.assertEqual(sum(counts_of(found)), max(sum(counts) for counts in givings))

    def test_together_and_due(self):
        for line, stock in cases():
            names = line.names()
            for lot in lots(names, 0):
                askers = [line.asker(name) for name in lot]
                best = max(sum(counts) for counts in all_givings(askers, stock))
                self.assertEqual(together(line, lot, stock), best)
                self.assertEqual(together(line, lot[::-1], stock), best)
                for name in names:
                    if name not in lot:
                        more = most_of([*askers, line.asker(name)], stock)
                        self.assertEqual(due(line, name, lot, stock), more - best)
                        self.assertEqual(due(line, name, lot[::-1], stock), more - best)

    def test_deal_adds_up_what_is_due(self):
        for line in drawn_lines(5, 60, 6, "abcde", 4):
            for stock in drawn_stocks(len(line.askers()[0].fits), 4, "abcdez", 5):
                names = line.names()
                found = deal(line, stock)
                self.assertEqual(found, deal_of(line, stock))
                for at, (name, count) in enumerate(found):
                    self.assertEqual(count, due(line, name, names[:at], stock))
                    self.assertEqual(count, due(line, name, names[:at][::-1], stock))

    def test_the_order_of_elders_means_nothing(self):
        for line in drawn_lines(6, 20, 5, "abcd", 3):
            for stock in drawn_stocks(7, 3, "abcd", 4):
                last = line.names()[-1]
                for names in itertools.permutations(line.names()[:-1]):
                    other = line.ordered([*names, last])
                    self.assertEqual(deal(other, stock)[-1], deal(line, stock)[-1])


class Edges(unittest.TestCase):
    def test_empty_ones(self):
        line = trio()
        self.assertEqual([deal(Line([]), {}), deal(Line([]), {"a": 5}), together(Line([]), [], {"a": 5})], [[], [], 0])
        self.assertEqual([together(line, [], SOME), together(line, ["ann"], {}), due(line, "ann", [], {})], [0, 0, 0])
        self.assertEqual(deal(line, {}), [("ann", 0), ("bob", 0), ("cat", 0)])

    def test_kinds_that_fit_nobody_and_counts_of_nought(self):
        line = trio()
        for stock in ({"z": 9}, {"z": 9, "a": 0}, {"a": 0, "b": 0, "ab": 0, "c": 0}):
            self.assertEqual(counts_of(deal(line, stock)), (0, 0, 0))
            self.assertEqual(together(line, ["ann", "bob", "cat"], stock), 0)
        with_more = {"z": 9, "c": 0, **SOME}
        self.assertEqual(deal(line, with_more), deal(line, SOME))
        self.assertEqual(together(line, ["cat", "ann"], with_more), together(line, ["cat", "ann"], SOME))
        self.assertEqual(due(line, "cat", ["ann"], with_more), due(line, "cat", ["ann"], SOME))

    def test_elders_may_stand_behind(self):
        line = trio()
        self.assertEqual([due(line, "ann", ["bob"], {"a": 3}), due(line, "ann", ["bob", "cat"], {"a": 3})], [1, 1])
        self.assertEqual(due(line, "ann", ["cat"], {"ab": 5}), 1)

    def test_a_stock_that_is_changed_in_place(self):
        line, stock = trio(), {"a": 1}
        first = deal(line, stock)
        stock["a"] = 5
        self.assertEqual(counts_of(first), (1, 0, 0))
        self.assertEqual(counts_of(deal(line, stock)), (3, 2, 0))
        del stock["a"]
        stock["c"] = 2
        self.assertEqual(counts_of(deal(line, stock)), (0, 0, 2))
        self.assertEqual(together(line, ["ann", "bob"], stock), 0)
        self.assertEqual(due(line, "cat", ["ann", "bob"], stock), 2)

    def test_names_that_are_kinds_too(self):
        line = Line([Asker("b", ["a", "b"], 1), Asker("a", ["b"], 1), Asker("start", ["end"], 1), Asker("end", ["start"], 2)])
        self.assertEqual(counts_of(deal(line, {"a": 1, "b": 1, "end": 1, "start": 1})), (1, 1, 1, 1))
        self.assertEqual(together(line, ["start", "end"], {"start": 9, "end": 9}), 3)

    def test_results_are_new(self):
        line = trio()
        found = deal(line, SOME)
        found.clear()
        self.assertEqual(counts_of(deal(line, SOME)), (3, 2, 2))
        self.assertEqual((line, SOME), (trio(), {"a": 4, "b": 1, "ab": 2}))

    def test_a_long_row_of_exchanges(self):
        # Each one gives a bag up and takes one of the next kind; the last kind has the only one that is left.
        kinds = "abcdefgh"
        fits = [kinds[at:at + 2] for at in range(7)] + ["a"]
        for order in (range(8), [7, 6, 5, 4, 3, 2, 1, 0], [3, 7, 0, 5, 1, 6, 2, 4]):
            line = line_of([fits[at] for at in order], [1] * 8)
            self.assertEqual(counts_of(deal(line, {kind: 1 for kind in kinds})), (1,) * 8)
            self.assertEqual(sum(counts_of(deal(line, {kind: 1 for kind in kinds[:7]}))), 7)


class GreatCounts(unittest.TestCase):
    def test_counts_in_proportion(self):
        for line in drawn_lines(8, 40, 5, "abcd", 4):
            for stock in drawn_stocks(9, 3, "abcd", 5):
                for times in (BIG // 7, HUGE):
                    many = Line([Asker(asker.name, asker.fits, asker.most * times) for asker in line.askers()])
                    great = {kind: count * times for kind, count in stock.items()}
                    self.assertEqual(counts_of(deal(many, great)), tuple(n * times for n in counts_of(deal(line, stock))))
                    self.assertEqual(together(many, line.names(), great), times * most_of(line.askers(), stock))

    def test_great_and_small_ones_beside_each_other(self):
        line = Line([Asker("ann", ["a", "b"], BIG), Asker("bob", ["a"], 2), Asker("cat", ["b"], BIG)])
        self.assertEqual(counts_of(deal(line, {"a": 3, "b": BIG})), (BIG, 2, 1))
        self.assertEqual(counts_of(deal(line, {"a": BIG + 1, "b": 1})), (BIG, 2, 0))
        self.assertEqual(due(line, "cat", ["ann"], {"a": BIG - 1, "b": BIG}), BIG - 1)
        self.assertEqual(due(line, "cat", ["bob", "ann"], {"a": BIG - 1, "b": BIG}), BIG - 3)

    def test_eight_askers_with_many_kinds(self):
        kinds = [first + second for first in "abcd" for second in "uvwxyzq"]
        line = Line([Asker(name, kinds[3 * at:] + kinds[:at], BIG - at) for at, name in enumerate("abcdefgh")])
        stock = {kind: BIG - 7 * at for at, kind in enumerate(kinds)}
        self.assertEqual(deal(line, stock), deal_of(line, stock))


class Folding(unittest.TestCase):
    """[34]: all askers are dealt as many bags then as before."""

    def test_small_lines(self):
        for line, stock in cases():
            self.assertEqual(deal(*folded(line, stock)), deal(line, stock))

    def test_greater_lines(self):
        for line in [trio().put_in(dan(), 1), *drawn_lines(3, 60, 4, "abcdef", 5)]:
            for stock in drawn_stocks(4, 5, ["a", "ab", "b", "c", "d", "e", "f", "z"], 4):
                self.assertEqual(deal(*folded(line, stock)), deal(line, stock))
