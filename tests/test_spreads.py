"""[52] and [53]: which bags make up a list of counts, and what is left behind it."""

import itertools
import unittest

from elderlink.deals import check_spread, deal, left, spread
from elderlink.house import Asker, Line
from tests.samples import BIG, ElderCase, HUGE, repr_of, strange, trio
from tests.ways import all_givings, all_lines, all_stocks, are_right_counts, bent, drawn_lines, drawn_stocks
from tests.ways import is_right_spread, most_of, patterned_lines

SOME = {"a": 4, "b": 1, "ab": 2}
RIGHT = [("ann", "a", 2), ("ann", "ab", 1), ("bob", "a", 2), ("cat", "ab", 1), ("cat", "b", 1)]


def cases():
    for many in range(3):
        for line in all_lines(many, "ab", (1, 2)):
            for stock in all_stocks("ab", 3):
                yield line, stock
    for at, line in enumerate(patterned_lines(3, "abc")):
        for stock in drawn_stocks(at, 2, "abcz", 3):
            yield line, stock


def all_counts(line):
    """All lists of counts of at most the mosts."""
    for counts in itertools.product(*[range(asker.most + 1) for asker in line.askers()]):
        yield list(zip(line.names(), counts))


def firsts(stock):
    """What makes more left of the first kinds greater."""
    return [stock[kind] for kind in sorted(stock)]


class ByGoingThrough(unittest.TestCase):
    def test_spread_and_left(self):
        for line, stock in cases():
            givings = all_givings(line.askers(), stock)
            for value in all_counts(line):
                found = spread(line, stock, value)
                rest = left(line, stock, value)
                ends = givings.get(tuple(count for _, count in value))
                if ends is None:
                    self.assertEqual((found, rest), (None, None))
                    continue
                self.assertTrue(is_right_spread(line, stock, value, found))
                self.assertIs(check_spread(line, stock, value, found), True)
                best = max(ends, key=firsts)
                self.assertEqual(rest, {kind: best[kind] for kind in best if best[kind] > 0})

    def test_the_deal_has_a_spread(self):
        for line in drawn_lines(11, 60, 6, "abcdef", 5):
            for stock in drawn_stocks(12, 4, "abcdefz", 6):
                value = deal(line, stock)
                found = spread(line, stock, value)
                self.assertTrue(is_right_spread(line, stock, value, found))
                rest = left(line, stock, value)
                self.assertEqual(sum(rest.values()), sum(stock.values()) - sum(count for _, count in value))
                self.assertNotIn(0, rest.values())

    def test_left_hangs_on_the_counts_alone(self):
        for line in drawn_lines(13, 30, 4, "abcd", 3):
            for stock in drawn_stocks(14, 3, "abcd", 4):
                value = deal(line, stock)
                for names in itertools.permutations(line.names()):
                    again = [(name, dict(value)[name]) for name in names]
                    self.assertEqual(left(line.ordered(list(names)), stock, again), left(line, stock, value))

    def test_no_spread_just_where_too_much_is_told(self):
        for line in drawn_lines(15, 40, 4, "abcde", 3):
            for stock in drawn_stocks(16, 2, "abcde", 2):
                for value in itertools.islice(all_counts(line), 0, 81, 5):
                    told = Line([Asker(name, line.asker(name).fits, count) for name, count in value if count > 0])
                    there = most_of(told.askers(), stock) == sum(count for _, count in value)
                    self.assertEqual(spread(line, stock, value) is not None, there)
                    self.assertEqual(left(line, stock, value) is not None, there)


class Judged(ElderCase):
    def judged(self, line, stock, value, found):
        kept = repr_of(found)
        expected = is_right_spread(line, stock, value, found)
        self.assertIs(check_spread(line, stock, value, found), expected, repr_of(found))
        self.assertEqual(repr_of(found), kept)

    def test_bent_in_one_place(self):
        value = [("ann", 3), ("bob", 2), ("cat", 2)]
        self.assertIs(check_spread(trio(), SOME, value, RIGHT), True)
        for found in bent(RIGHT):
            self.judged(trio(), SOME, value, found)
        for line in drawn_lines(17, 12, 3, "abcz", 3):
            for stock in drawn_stocks(18, 2, "abcz", 3):
                value = deal(line, stock)
                for found in bent(spread(line, stock, value)):
                    self.judged(line, stock, value, found)

    def test_all_entries_of_small_lines(self):
        line, stock = Line([Asker("m", ["a", "b"], 2), Asker("c", ["b"], 1)]), {"a": 1, "b": 2}
        entries = [(name, kind, number) for name in ("c", "m") for kind in "ab" for number in (1, 2)]
        for value in all_counts(line):
            for many in range(4):
                for found in itertools.permutations(entries, many):
                    self.judged(line, stock, value, list(found))

    def test_true_and_nought_are_no_numbers(self):
        line = Line([Asker("m", ["a", "b"], 1)])
        for found, right in (
            ([("m", "a", 1)], True), ([("m", "a", True)], False), ([("m", "a", 1), ("m", "b", 0)], False),
            ([("m", "a", 0), ("m", "b", 1)], False), ([("m", "a", 1), ("m", "b", False)], False),
            ([("m", "b", 1)], True), ([["m", "a", 1]], False), ((("m", "a", 1),), False),
            ([("m", "a", 2), ("m", "b", -1)], False), ([("m", "c", 1)], False), ([("c", "a", 1)], False),
        ):
            self.assertIs(check_spread(line, {"a": 1, "b": 1, "c": 1}, [("m", 1)], found), right)

    def test_one_name_and_kind_together_twice(self):
        line = Line([Asker("m", ["a"], 3)])
        for found in ([("m", "a", 1), ("m", "a", 2)], [("m", "a", 1), ("m", "a", 1), ("m", "a", 1)]):
            self.assertIs(check_spread(line, {"a": 3}, [("m", 3)], found), False)

    def test_any_object(self):
        for value in strange():
            self.assertIs(check_spread(trio(), SOME, deal(trio(), SOME), value), False, repr_of(value))
            self.assertIs(check_spread(trio(), {}, deal(trio(), {}), value), value == [] and type(value) is list)
            # Too much is told: nothing is a spread.
            self.assertIs(check_spread(trio(), {}, [("ann", 1), ("bob", 0), ("cat", 0)], value), False)


class Edges(ElderCase):
    def test_empty_ones(self):
        self.assertEqual([spread(Line([]), {"a": 1}, []), left(Line([]), {"a": 1, "b": 0}, []), left(Line([]), {}, [])],
                         [[], {"a": 1}, {}])
        self.assertIs(check_spread(Line([]), {"a": 1}, [], []), True)
        self.assertIs(check_spread(Line([]), {"a": 1}, [], [("ann", "a", 1)]), False)
        nobody = [("ann", 0), ("bob", 0), ("cat", 0)]
        self.assertEqual([spread(trio(), SOME, nobody), left(trio(), SOME, nobody)], [[], SOME])

    def test_kinds_that_fit_nobody_are_left(self):
        value = [("ann", 1), ("bob", 0), ("cat", 0)]
        self.assertEqual(left(trio(), {"z": 3, "aa": 2, "ab": 1}, value), {"z": 3, "aa": 2})
        self.assertIsNone(left(trio(), {"z": 3, "aa": 2}, value))
        self.assertIsNone(spread(trio(), {"z": 3, "aa": 2}, value))

    def test_first_kinds_are_left_though_others_must_move(self):
        line = Line([Asker("m", ["a", "b"], 1), Asker("c", ["b", "c"], 1)])
        value = [("m", 1), ("c", 1)]
        self.assertEqual(left(line, {"a": 1, "b": 1, "c": 1}, value), {"a": 1})
        self.assertEqual(left(line, {"a": 1, "b": 1}, value), {})
        self.assertEqual(left(line, {"a": 2, "b": 2}, value), {"a": 2})
        self.assertEqual(left(line, {"a": 1, "c": 2}, value), {"c": 1})

    def test_great_counts(self):
        for great in (BIG, HUGE):
            line = Line([Asker("m", ["a", "b"], great), Asker("c", ["a"], great)])
            value, stock = [("m", great - 1), ("c", 1)], {"a": 5, "b": great - 2, "z": great}
            found = spread(line, stock, value)
            self.assertTrue(is_right_spread(line, stock, value, found))
            self.assertIs(check_spread(line, stock, value, found), True)
            self.assertTrue(left(line, stock, value) == {"a": 3, "z": great})

    def test_lists_of_counts_and_others(self):
        value = [("ann", 3), ("bob", 2), ("cat", 2)]
        for other in [*bent(value), value[::-1], [("ann", 4), ("bob", 2), ("cat", 2)], *strange()]:
            if are_right_counts(trio(), other):
                self.assertEqual(spread(trio(), {}, other) is None, sum(count for _, count in other) > 0)
            else:
                for call in (lambda: spread(trio(), SOME, other), lambda: left(trio(), SOME, other),
                             lambda: check_spread(trio(), SOME, other, RIGHT)):
                    with self.assertRaises(ValueError, msg=repr_of(other)) as caught:
                        call()
                    self.assertEqual(type(caught.exception).__name__, "InvalidDeal")
                    self.assertIs(caught.exception.value, other)

    def test_a_stock_that_is_changed_in_place(self):
        stock, value = {"a": 3}, [("ann", 1), ("bob", 1), ("cat", 0)]
        first, rest = spread(trio(), stock, value), left(trio(), stock, value)
        stock["a"] = 1
        self.assertEqual((first, rest), ([("ann", "a", 1), ("bob", "a", 1)], {"a": 1}))
        self.assertEqual((spread(trio(), stock, value), left(trio(), stock, value)), (None, None))
        stock["ab"] = 2
        self.assertEqual(left(trio(), stock, value), {"ab": 1})

    def test_stocks_that_tell_the_same(self):
        for line in drawn_lines(19, 20, 4, "abcd", 3):
            stock = {"c": 2, "a": 1, "d": 0, "b": 2}
            value = deal(line, stock)
            for other in ({"a": 1, "b": 2, "c": 2}, {"z": 0, "b": 2, "c": 2, "a": 1}):
                self.assertEqual(spread(line, other, value), spread(line, stock, value))
                self.assertEqual(left(line, other, value), left(line, stock, value))
