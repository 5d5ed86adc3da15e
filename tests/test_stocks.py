"""[33]: stocks, and what some askers of a line want."""

import itertools

from elderlink.errors import InvalidLine, InvalidNames, InvalidStock
from elderlink.house import Line, added, fitting, held, taken, total, wanted
from tests.samples import BIG, ElderCase, HUGE, is_line, is_right_names, is_right_stock, repr_of, strange_but, trio

STOCKS = [
    {kind: count for kind, count in zip("abc", counts) if count is not None}
    for counts in itertools.product((None, 0, 1, 3), repeat=3)
]


def counts_of(stock):
    return [stock.get(kind, 0) for kind in "abc"]


def has_no_noughts(stock):
    return type(stock) is dict and all(type(stock[kind]) is int and stock[kind] > 0 for kind in stock)


class Stocks(ElderCase):
    def test_total_and_held(self):
        for stock in STOCKS:
            self.assertEqual(total(stock), sum(counts_of(stock)))
            self.assertEqual(total(stock=stock), total(stock))
            for many in range(4):
                for kinds in itertools.permutations("abd", many):
                    expected = sum(stock.get(kind, 0) for kind in kinds)
                    self.assertEqual(held(stock, list(kinds)), expected)
                    self.assertEqual(held(kinds=list(kinds), stock=stock), expected)

    def test_empty_ones(self):
        self.assertEqual([total({}), held({}, []), held({}, ["a"]), held({"a": 3}, [])], [0, 0, 0, 0])
        self.assertEqual([added({}, {}), taken({}, {}), added({"a": 0}, {"b": 0}), taken({"a": 0}, {"b": 0})], [{}] * 4)

    def test_added_and_taken(self):
        for one, other in itertools.product(STOCKS, STOCKS):
            kept = (dict(one), dict(other))
            both = added(one, other)
            self.assertTrue(has_no_noughts(both))
            self.assertEqual(counts_of(both), [a + b for a, b in zip(counts_of(one), counts_of(other))])
            self.assertEqual(both, added(other=other, one=one))
            left = taken(both, other)
            self.assertTrue(has_no_noughts(left))
            self.assertEqual(counts_of(left), counts_of(one))
            self.assertEqual((one, other), kept)
            if any(b > a for a, b in zip(counts_of(one), counts_of(other))):
                self.refused(InvalidStock, other, taken, one, other)
            else:
                self.assertEqual(added(taken(other=other, one=one), other), taken(one, {}))

    def test_counts_of_any_length(self):
        for count in (BIG, HUGE):
            self.assertEqual(total({"a": count, "b": 1}), count + 1)
            self.assertEqual(held({"a": count, "b": 1}, ["a"]), count)
            self.assertEqual(added({"a": count}, {"a": count}), {"a": 2 * count})
            self.assertEqual(taken({"a": count}, {"a": count - 1}), {"a": 1})
            self.assertEqual(taken({"a": count}, {"a": count}), {})
            other = {"a": count + 1}
            self.refused(InvalidStock, other, taken, {"a": count}, other)

    def test_no_stocks(self):
        for value in strange_but(is_right_stock):
            with self.subTest(value=repr_of(value)):
                self.refused(InvalidStock, value, total, value)
                self.refused(InvalidStock, value, held, value, ["a"])
                self.refused(InvalidStock, value, held, value, None)
                for function in (added, taken):
                    self.refused(InvalidStock, value, function, value, {})
                    self.refused(InvalidStock, value, function, {"a": 1}, value)
                    self.refused(InvalidStock, value, function, value, None)
                    self.refused(InvalidStock, value, function, other=[], one=value)

    def test_held_of_no_kinds(self):
        for value in strange_but(is_right_names):
            with self.subTest(value=repr_of(value)):
                self.refused(InvalidNames, value, held, {"a": 1}, value)

    def test_results_are_new(self):
        one, other = {"a": 1}, {}
        for function in (added, taken):
            result = function(one, other)
            self.assertIsNot(result, one)
            result["a"] = 9
            result["z"] = 9
            self.assertEqual((one, other), ({"a": 1}, {}))
            self.assertEqual(function(one, other), {"a": 1})


class Members(ElderCase):
    def test_all_lots(self):
        line = trio()
        for many in range(4):
            for lot in itertools.permutations(line.askers(), many):
                names = [asker.name for asker in lot]
                kinds = sorted({kind for asker in lot for kind in asker.fits})
                mosts = sum(asker.most for asker in lot)
                self.assertEqual((fitting(line, names), wanted(line, names)), (kinds, mosts))
                self.assertEqual((fitting(names=names, line=line), wanted(names=names, line=line)), (kinds, mosts))
        self.assertEqual((fitting(Line([]), []), wanted(Line([]), [])), ([], 0))

    def test_no_lines(self):
        for value in strange_but(is_line):
            with self.subTest(value=repr_of(value)):
                for function in (fitting, wanted):
                    self.refused(InvalidLine, value, function, value, [])
                    self.refused(InvalidLine, value, function, value, None)

    def test_no_names_of_the_line(self):
        def right(value):
            return is_right_names(value) and all(name in ("ann", "bob", "cat") for name in value)

        others = [["ann", "ann"], ["ann", "dan"], ["dan"], ("ann", "bob"), "ann", {"ann": 1}, ["ann", None], [["ann"]]]
        for value in strange_but(right) + others:
            with self.subTest(value=repr_of(value)):
                for function in (fitting, wanted):
                    self.refused(InvalidNames, value, function, trio(), value)
        names = ["ann"]
        self.refused(InvalidNames, names, fitting, Line([]), names)

    def test_results_are_new(self):
        line = trio()
        fitting(line, ["ann"]).append("z")
        self.assertEqual(fitting(line, ["ann"]), ["a", "ab"])
        self.assertEqual(line, trio())
