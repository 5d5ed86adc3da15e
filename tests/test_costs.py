"""[80] to [82] and [84]: what a lot costs a stretch, barriers, and how a cost is eased."""

import itertools
import unittest

from elderlink.costs import barrier, check_barrier, cost, eased, greatest_cost, worst_stock
from elderlink.deals import deal
from elderlink.errors import InvalidCount
from elderlink.house import Asker, Line
from tests.samples import BIG, ElderCase, HUGE, is_right_count, is_right_names, repr_of, strange, strange_but, trio
from tests.ways import all_lines, all_stocks, bent, cost_of, drawn_lines, drawn_stocks, line_of, lots, patterned_lines
from tests.ways import rows_of, sides


def small_lines():
    yield from itertools.islice(all_lines(2, "abc", (1, 2)), 0, None, 3)
    yield from itertools.islice(all_lines(3, "ab", (1, 2)), 0, None, 2)
    yield from itertools.islice(patterned_lines(3, "abc"), 0, None, 2)
    yield from drawn_lines(61, 12, 4, "abc", 2)
    yield from drawn_lines(62, 4, 5, "ab", 2)


def greater_lines():
    yield from drawn_lines(63, 25, 6, "abcdefg", 4)
    yield from drawn_lines(64, 10, 8, "abcdefghijkl", 5)


def some_sides(line, step):
    return list(itertools.islice(sides(line), 0, None, step))


def is_right_barrier(line, lot, stretch, value):
    """[82] by its words: each row has one of the names."""
    names = line.names()[:line.place(stretch[-1]) + 1]
    if not is_right_names(value) or [name for name in names if name in value] != value:
        return False
    return all(any(name in value for name in row) for row in rows_of(line, lot, stretch))


def mosts(line, names):
    return sum(line.asker(name).most for name in names)


class Costs(unittest.TestCase):
    def test_cost_by_its_words(self):
        for line in [*small_lines(), *greater_lines()]:
            kinds = line.kinds()
            for at, (lot, stretch) in enumerate(some_sides(line, 7)):
                for stock in drawn_stocks(at, 3, [*kinds, "zz"], 3):
                    expected = cost_of(line, lot, stretch, stock)
                    self.assertEqual(cost(line, lot, stretch, stock), expected)
                    self.assertEqual(cost(line, lot[::-1], stretch, stock), expected)
                    self.assertGreaterEqual(expected, 0)

    def test_cost_is_a_difference_of_deals(self):
        for line in greater_lines():
            for lot, stretch in some_sides(line, 29):
                other = line
                for name in lot:
                    other = other.without(name)
                for stock in drawn_stocks(8, 2, line.kinds(), 4):
                    before, after = dict(deal(other, stock)), dict(deal(line, stock))
                    self.assertEqual(cost(line, lot, stretch, stock), sum(before[name] - after[name] for name in stretch))

    def test_greatest_cost_against_all_small_stocks(self):
        for line in small_lines():
            kinds, top = line.kinds(), sum(asker.most for asker in line.askers())
            stocks = list(all_stocks(kinds, min(top, 6 if len(kinds) < 3 else 3)))
            for lot, stretch in some_sides(line, 2 if len(line) > 3 else 1):
                most = greatest_cost(line, lot, stretch)
                best = 0
                for stock in stocks:
                    told = cost_of(line, lot, stretch, stock)
                    self.assertLessEqual(told, most)
                    best = max(best, told)
                self.assertEqual(cost_of(line, lot, stretch, worst_stock(line, lot, stretch)), most)
                if len(kinds) < 3 or top <= 3:
                    self.assertEqual(best, most)

    def test_one_end_shows_the_other(self):
        for line in greater_lines():
            for lot, stretch in some_sides(line, 11):
                most, stock = greatest_cost(line, lot, stretch), worst_stock(line, lot, stretch)
                found = barrier(line, lot, stretch)
                self.assertEqual(cost_of(line, lot, stretch, stock), most)
                self.assertEqual(cost(line, lot, stretch, stock), most)
                self.assertEqual(mosts(line, found), most)
                self.assertTrue(is_right_barrier(line, lot, stretch, found) if len(line) < 7 else True)
                self.assertIs(check_barrier(line, lot, stretch, found), True)
                self.assertNotIn(0, stock.values())
                self.assertTrue(all(type(count) is int for count in stock.values()))

    def test_nothing_is_cost_without_a_row(self):
        line = line_of(["a", "b", "a", "b"], [2, 3, 1, 1])
        self.assertEqual([greatest_cost(line, ["m"], ["c"]), worst_stock(line, ["m"], ["c"]), barrier(line, ["m"], ["c"])], [0, {}, []])
        self.assertEqual([greatest_cost(line, ["m"], ["x"]), greatest_cost(line, ["c"], ["x", "ba"])], [1, 1])
        self.assertIs(check_barrier(line, ["m"], ["c"], []), True)
        self.assertIs(check_barrier(line, ["m"], ["x"], []), False)

    def test_a_row_leads_by_no_others_of_the_sides(self):
        # From m to k a row leads by x and by ba alone; with x in the lot, or ba in the stretch, it is shorter.
        line = line_of(["a", "ab", "bc", "c"], [5, 2, 3, 4])
        self.assertEqual(greatest_cost(line, ["m"], ["ba"]), 2)
        self.assertEqual(greatest_cost(line, ["m", "c"], ["ba"]), 2)
        self.assertEqual(greatest_cost(line, ["m", "c", "x"], ["ba"]), 3)
        self.assertEqual(greatest_cost(line, ["x", "m"], ["ba"]), 3)
        self.assertEqual(greatest_cost(line, ["c"], ["x", "ba"]), 2)

    def test_great_mosts(self):
        for great in (BIG, HUGE):
            line = line_of(["ab", "ac", "bd", "cd", "d"], [great, great - 1, great // 3, great // 2, great])
            found = worst_stock(line, ["m"], ["k"])
            self.assertTrue(greatest_cost(line, ["m"], ["k"]) == great // 3 + great // 2)
            self.assertTrue(cost(line, ["m"], ["k"], found) == great // 3 + great // 2)
            self.assertEqual(barrier(line, ["m"], ["k"]), ["x", "ba"])
            self.assertTrue(cost(line, ["c", "x"], ["ba", "k"], {"c": great}) == great // 2 - 1)

    def test_results_are_new(self):
        line = line_of(["a", "a", "a"], [1, 2, 3])
        for function in (worst_stock, barrier, lambda *told: eased(*told, 0)):
            first = function(line, ["m"], ["x"])
            told = repr_of(first)
            first.clear()
            self.assertEqual(repr_of(function(line, ["m"], ["x"])), told)

    def test_equal_lines_tell_the_same(self):
        for line in drawn_lines(65, 20, 5, "abcd", 3):
            again = Line([Asker(asker.name, asker.fits[::-1], asker.most) for asker in line.askers()])
            for lot, stretch in some_sides(line, 5):
                for function in (worst_stock, barrier, lambda *told: eased(*told, 1)):
                    self.assertEqual(repr_of(function(again, lot, stretch)), repr_of(function(line, lot, stretch)))


class Barriers(ElderCase):
    def test_no_lesser_barrier_and_all_lists_of_names(self):
        for line in small_lines():
            for lot, stretch in some_sides(line, 3):
                rows = rows_of(line, lot, stretch)
                names = line.names()[:line.place(stretch[-1]) + 1]
                least = None
                for value in lots(names, 0):
                    right = all(any(name in value for name in row) for row in rows)
                    self.assertIs(check_barrier(line, lot, stretch, value), right)
                    if right and (least is None or mosts(line, value) < least):
                        least = mosts(line, value)
                found = barrier(line, lot, stretch)
                self.assertTrue(is_right_barrier(line, lot, stretch, found))
                self.assertEqual(mosts(line, found), least)
                self.assertEqual(least, greatest_cost(line, lot, stretch))

    def test_names_behind_the_stretch_and_other_orders(self):
        line = line_of(["a", "a", "a", "a"], [1, 1, 1, 1])
        for value, right in (
            (["m"], True), (["x"], True), (["m", "x"], True), (["x", "m"], False), (["m", "c"], True), (["c"], False),
            (["m", "ba"], False), (["m", "m"], False), (["ba"], False), (["m", "zz"], False), (("m",), False), ([], False),
        ):
            self.assertIs(check_barrier(line, ["m"], ["x"], value), right, value)

    def test_bent_in_one_place(self):
        for line in drawn_lines(66, 12, 4, "abc", 2):
            for lot, stretch in some_sides(line, 6):
                for value in bent(barrier(line, lot, stretch)):
                    expected = is_right_barrier(line, lot, stretch, value)
                    self.assertIs(check_barrier(line, lot, stretch, value), expected, repr_of(value))

    def test_any_object(self):
        for value in strange():
            expected = is_right_barrier(trio(), ["ann"], ["cat"], value)
            self.assertIs(check_barrier(trio(), ["ann"], ["cat"], value), expected, repr_of(value))
            for lists in ([value], [value, "ann"], ["ann", value]):
                expected = is_right_barrier(trio(), ["ann"], ["cat"], lists)
                self.assertIs(check_barrier(trio(), ["ann"], ["cat"], lists), expected, repr_of(lists))


def with_mosts(line, pairs):
    """The line with lesser mosts, those with 0 left out."""
    for name, most in pairs:
        line = line.changed(Asker(name, line.asker(name).fits, most)) if most > 0 else line.without(name)
    return line


def greatest_with(line, lot, stretch, pairs):
    other = with_mosts(line, pairs)
    some = [name for name in lot if name in other.names()]
    rest = [name for name in stretch if name in other.names()]
    return greatest_cost(other, some, rest) if some and rest else 0


class Eased(ElderCase):
    def judged(self, line, lot, stretch, bound):
        found = eased(line, lot, stretch, bound)
        names = line.names()[:line.place(stretch[-1]) + 1]
        told = [name for name, _ in found]
        self.assertEqual([name for name in names if name in told], told)
        for pair in found:
            self.assertIs(type(pair), tuple)
            self.assertTrue(is_right_count(pair[1]) and pair[1] < line.asker(pair[0]).most)
        off = sum(line.asker(name).most - most for name, most in found)
        self.assertEqual(off, max(0, greatest_cost(line, lot, stretch) - bound))
        self.assertLessEqual(greatest_with(line, lot, stretch, found), bound)

    def test_all_bounds(self):
        for line in [*small_lines(), *greater_lines()]:
            for lot, stretch in some_sides(line, 5 if len(line) < 5 else 41):
                for bound in range(greatest_cost(line, lot, stretch) + 2):
                    self.judged(line, lot, stretch, bound)

    def test_no_less_does_it(self):
        for line in itertools.islice(small_lines(), 0, None, 9):
            for lot, stretch in some_sides(line, 3):
                names, most = line.names()[:line.place(stretch[-1]) + 1], greatest_cost(line, lot, stretch)
                for offs in itertools.product(*[range(line.asker(name).most + 1) for name in names]):
                    pairs = [(name, line.asker(name).most - off) for name, off in zip(names, offs)]
                    self.assertGreaterEqual(greatest_with(line, lot, stretch, pairs), most - sum(offs))

    def test_great_mosts(self):
        for great in (BIG, HUGE):
            line = line_of(["a", "ab", "b"], [great, great - 5, great])
            self.assertTrue(eased(line, ["m"], ["x"], great - 7) == [("c", great - 7)])
            self.assertTrue(eased(line, ["m"], ["x"], great) == [])
            self.assertTrue(eased(line, ["m"], ["x"], 0) == [("c", 0)])

    def test_bounds_that_are_none(self):
        for value in strange_but(is_right_count):
            self.refused(InvalidCount, value, eased, trio(), ["ann"], ["bob"], value)
            self.refused(InvalidCount, value, eased, bound=value, stretch=["bob"], lot=["ann"], line=trio())
