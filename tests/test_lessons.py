"""[115] to [117]: books from which a line can be learnt, unlike deals of all orders, bounds and means."""

import itertools
import math
import unittest
from fractions import Fraction

from elderlink.claims import bounds, check_stuck, count_deals, count_orders, first_wronged, lesson, means, must, nearest
from elderlink.claims import order_for, unlike_deals
from elderlink.deals import due
from elderlink.errors import InvalidLine, InvalidStock
from elderlink.house import Asker, Line, recalled
from elderlink.orders import alike, count_alike, normal, parent
from tests.samples import BIG, ElderCase, HUGE, is_line, is_right_stock, strange_but, trio
from tests.test_claims import is_right_book, orders_of
from tests.ways import all_lines, deal_of, drawn_lines, drawn_stocks, line_of, lots, most_of, patterned_lines


def lines():
    yield Line([])
    yield from all_lines(1, "ab", (1, 2))
    yield from itertools.islice(all_lines(2, "abc", (1, 2)), 0, None, 5)
    yield from itertools.islice(patterned_lines(3, "abc"), 0, None, 8)
    yield from drawn_lines(1111, 20, 4, "abcd", 3)
    yield from drawn_lines(1112, 3, 5, "abcdef", 3)


class Lessons(ElderCase):
    def test_just_the_orders_that_deal_alike(self):
        for line in lines():
            book = lesson(line)
            self.assertTrue(is_right_book(line, book))
            self.assertLessEqual(len(book), len([name for name in line.names() if parent(line, name) is not None]))
            self.assertTrue(all(0 not in stock.values() for stock, _ in book))
            alikes = [list(names) for names in itertools.permutations(sorted(line.names()))
                      if alike(line, line.ordered(list(names)))]
            self.assertEqual(orders_of(line, book), alikes)
            self.assertEqual(count_orders(line, book), count_alike(line))
            self.assertIsNone(first_wronged(line, book))

    def test_eight_askers(self):
        for line in drawn_lines(1113, 12, 8, "abcdef", BIG):
            book = lesson(line)
            self.assertEqual(count_orders(line, book), count_alike(line))
            self.assertEqual(nearest(line, book), (0, line.names()))
            self.assertTrue(alike(line, line.ordered(order_for(line, book))))
            self.assertIs(check_stuck(line, book, []), False)
            again = lesson(normal(line))
            turned = [(stock, [dict(told)[name] for name in line.names()]) for stock, told in again]
            self.assertEqual(count_orders(line, [(stock, list(zip(line.names(), counts))) for stock, counts in turned]),
                             count_alike(line))
            pairs = must(line, book)
            for name in line.names():
                self.assertEqual(parent(line, name) is None, all(pair[0] != name for pair in pairs))

    def test_no_lesson_is_needed(self):
        self.assertEqual((lesson(Line([])), lesson(line_of(["a", "b", "c"], [1, 2, 3]))), ([], []))
        for value in strange_but(is_line):
            self.refused(InvalidLine, value, lesson, value)


class AllOrders(ElderCase):
    def test_against_all_orders(self):
        for at, line in enumerate(lines()):
            for stock in drawn_stocks(at, 2, "abcdz", 4):
                names = line.names()
                deals = [dict(deal_of(line.ordered(list(order)), stock)) for order in itertools.permutations(names)]
                told = sorted({tuple(counts[name] for name in names) for counts in deals})
                self.assertEqual(unlike_deals(line, stock), [list(counts) for counts in told])
                self.assertEqual(count_deals(line, stock), len(told))
                self.assertEqual(bounds(line, stock), [
                    (name, min(counts[name] for counts in deals), max(counts[name] for counts in deals)) for name in names])
                sums = [Fraction(sum(counts[name] for counts in deals), len(deals)) for name in names]
                self.assertEqual(means(line, stock), [(name, (mean.numerator, mean.denominator)) for name, mean in zip(names, sums)])
                alone = sum(most_of([asker], stock) for asker in line.askers())
                self.assertEqual(count_deals(line, stock) == 1, alone == most_of(line.askers(), stock))

    def test_means_add_up(self):
        for line in drawn_lines(1114, 8, 8, "abcdef", 5):
            for stock in drawn_stocks(1115, 2, "abcdef", 6):
                amounts = {name: Fraction(*mean) for name, mean in means(line, stock)}
                for lot in itertools.islice(lots(line.askers()), 0, None, 7):
                    self.assertLessEqual(sum(amounts[asker.name] for asker in lot), most_of(lot, stock))
                self.assertEqual(sum(amounts.values()), most_of(line.askers(), stock))
                for name, (top, bottom) in means(line, stock):
                    self.assertEqual(math.gcd(top, bottom), 1)
                    self.assertGreater(bottom, 0)

    def test_bounds_of_eight(self):
        for line in drawn_lines(1116, 8, 8, "abcdef", 5):
            for stock in drawn_stocks(1117, 2, "abcdef", 6):
                for name, least, most in bounds(line, stock):
                    others = [other for other in line.names() if other != name]
                    self.assertEqual((least, most), (due(line, name, others, stock), due(line, name, [], stock)))

    def test_six_askers(self):
        for line in drawn_lines(1118, 2, 6, "abcdef", BIG):
            stock = {kind: BIG // 3 for kind in "abcdef"}
            told = {tuple(dict(deal_of(line.ordered(list(order)), stock))[name] for name in line.names())
                    for order in itertools.islice(itertools.permutations(line.names()), 0, None, 37)}
            found = unlike_deals(line, stock)
            self.assertTrue(told <= {tuple(counts) for counts in found})
            self.assertEqual((found, count_deals(line, stock)), (sorted(found), len(found)))

    def test_great_counts(self):
        for great in (BIG, HUGE):
            line = Line([Asker("p", ["a"], great), Asker("q", ["a"], great)])
            self.assertEqual(unlike_deals(line, {"a": great + 3}), [[3, great], [great, 3]])
            self.assertEqual(bounds(line, {"a": great + 3}), [("p", 3, great), ("q", 3, great)])
            mean = Fraction(great + 3, 2)
            self.assertEqual(means(line, {"a": great + 3})[0], ("p", (mean.numerator, mean.denominator)))

    def test_the_empty_line_and_empty_stocks(self):
        empty = Line([])
        self.assertEqual([unlike_deals(empty, {"a": 1}), count_deals(empty, {}), bounds(empty, {}), means(empty, {})], [[[]], 1, [], []])
        self.assertEqual(means(trio(), {"z": 4}), [("ann", (0, 1)), ("bob", (0, 1)), ("cat", (0, 1))])
        self.assertEqual((order_for(empty, []), must(empty, []), nearest(empty, []), count_orders(empty, [])), ([], [], (0, []), 1))

    def test_called_otherwise(self):
        names = {"m": "c", "c": "m"}
        for line in drawn_lines(1119, 10, 4, "abc", 3):
            for stock in drawn_stocks(1120, 2, "abc", 4):
                self.assertEqual(unlike_deals(recalled(line, names), stock), unlike_deals(line, stock))
                self.assertEqual(means(recalled(line, names), stock), [(names.get(name, name), mean) for name, mean in means(line, stock)])

    def test_refused(self):
        for function in (unlike_deals, count_deals, bounds, means):
            for value in strange_but(is_line):
                self.refused(InvalidLine, value, function, value, None)
            for value in strange_but(is_right_stock):
                self.refused(InvalidStock, value, function, trio(), value)


class TheSameTwice(unittest.TestCase):
    def test_equal_calls(self):
        line, stock = trio(), {"a": 3, "ab": 1, "b": 0}
        for function in (unlike_deals, bounds, means):
            found = function(line, stock)
            kept = repr(found)
            found.clear()
            self.assertEqual(repr(function(trio(), {"ab": 1, "a": 3})), kept)
        unlike_deals(line, stock)[0].clear()
        self.assertEqual(len(unlike_deals(line, stock)[0]), 3)
        book = lesson(line)
        book[0][0].clear()
        book[0][1].clear()
        self.assertEqual(count_orders(line, lesson(line)), count_alike(line))
