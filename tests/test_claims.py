"""[110] to [114]: which orders deal so as a book of told deals says, against all orders gone through one by one."""

import itertools
import random
import unittest

from elderlink.claims import check_stuck, count_orders, first_wronged, must, nearest, order_for, stuck
from elderlink.errors import InvalidLine, InvalidTold
from elderlink.house import Asker, Line
from tests.samples import BIG, ElderCase, HUGE, is_line, is_right_names, is_right_stock, repr_of, spoiled, strange_but, trio
from tests.ways import are_right_counts, bent, deal_of, drawn_lines, drawn_stocks, line_of, lots, most_of, patterned_lines

THREE = Line([Asker("ann", ["o"], 2), Asker("ben", ["o"], 2), Asker("cy", ["o"], 1)])
ONE = [({"o": 3}, [("ann", 2), ("ben", 0), ("cy", 1)])]
FUNCTIONS = [order_for, stuck, count_orders, must, nearest, first_wronged]


def told_by(line, names, stock):
    """The list of [52], in the order of the line, that another order deals."""
    counts = dict(deal_of(line.ordered(list(names)), stock))
    return [(name, counts[name]) for name in line.names()]


def cases():
    """Lines with books: dealt by one order, by unlike ones, and bent ones."""
    draw = random.Random(1101)
    yield Line([]), []
    yield Line([]), [({"a": 2}, [])]
    lines = [*itertools.islice(patterned_lines(3, "abc"), 0, None, 9), *drawn_lines(1102, 30, 4, "abc", 3),
             *drawn_lines(1103, 3, 5, "abcd", 3), line_of(["a", "a", "a", "a"], [2, 1, 2, 1])]
    for at, line in enumerate(lines):
        yield line, []
        stocks = list(drawn_stocks(at, 3, "abcdz", 3))
        orders = [draw.sample(line.names(), len(line)) for _ in stocks]
        yield line, [(stock, told_by(line, orders[0], stock)) for stock in stocks]
        yield line, [(stock, told_by(line, order, stock)) for stock, order in zip(stocks, orders)][:1 + at % 3]
        yield line, [(stock, [(asker.name, draw.randint(0, asker.most)) for asker in line.askers()]) for stock in stocks[:1]]


def orders_of(line, book):
    """All orders that deal so, as Python orders lists."""
    return [list(names) for names in itertools.permutations(sorted(line.names()))
            if all(told_by(line, names, stock) == told for stock, told in book)]


def far(line, names):
    places = [line.place(name) for name in names]
    return sum(one > other for one, other in itertools.combinations(places, 2))


def is_right_stuck(line, book, value):
    """[111] by its words."""
    if not is_right_names(value) or value != sorted(value) or not set(value) < set(line.names()):
        return False
    lot = [line.asker(name) for name in value]
    if any(sum(dict(told)[name] for name in value) != most_of(lot, stock) for stock, told in book):
        return False
    for asker in line.askers():
        if asker.name not in value:
            if all(most_of([*lot, asker], stock) - most_of(lot, stock) == dict(told)[asker.name] for stock, told in book):
                return False
    return True


def is_right_book(line, value):
    if type(value) is not list:
        return False
    for part in value:
        if type(part) is not tuple or len(part) != 2 or not is_right_stock(part[0]) or not are_right_counts(line, part[1]):
            return False
    return True


class AgainstAllOrders(unittest.TestCase):
    def test_all_functions(self):
        numbers = []
        for line, book in cases():
            orders = orders_of(line, book)
            numbers.append(len(orders))
            self.assertEqual(count_orders(line, book), len(orders))
            found = order_for(line, book)
            self.assertEqual(found is None, not orders)
            self.assertIn(found, orders or [None])
            self.orders_told(line, book, orders)
            self.assertEqual(first_wronged(line, book), self.wronged(line, book))
            self.assertEqual(first_wronged(line, book) is None, line.names() in orders)
        self.assertTrue(numbers.count(0) > 20 and numbers.count(1) > 10 and max(numbers) > 50)

    def orders_told(self, line, book, orders):
        if not orders:
            self.assertEqual((must(line, book), nearest(line, book)), (None, None))
            self.assertTrue(is_right_stuck(line, book, stuck(line, book)))
            self.assertIs(check_stuck(line, book, stuck(line, book)), True)
            return
        pairs = [pair for pair in itertools.permutations(sorted(line.names()), 2)
                 if all(order.index(pair[0]) < order.index(pair[1]) for order in orders)]
        near = min(far(line, order) for order in orders)
        self.assertEqual(must(line, book), pairs)
        self.assertEqual(nearest(line, book), (near, [order for order in orders if far(line, order) == near][0]))
        self.assertEqual(near == 0, line.names() in orders)
        self.assertIsNone(stuck(line, book))

    def wronged(self, line, book):
        for place, (stock, told) in enumerate(book):
            for right, got in zip(deal_of(line, stock), told):
                if right != got:
                    return (place, right[0], right[1], got[1])
        return None

    def test_the_book_in_another_order(self):
        for line, book in itertools.islice(cases(), 0, None, 5):
            for function in (count_orders, must, nearest):
                self.assertEqual(function(line, book[::-1]), function(line, book))
                self.assertEqual(function(line, book + book), function(line, book))

    def test_great_counts(self):
        for great in (BIG, HUGE):
            line = Line([Asker("p", ["a"], great), Asker("q", ["a", "b"], great), Asker("r", ["b"], great)])
            stock = {"a": great, "b": 5}
            book = [(stock, [("p", great), ("q", 5), ("r", 0)])]
            self.assertEqual((order_for(line, book) is None, count_orders(line, book)), (False, 1))
            self.assertEqual(must(line, book), [("p", "q"), ("p", "r"), ("q", "r")])
            self.assertEqual(nearest(line.moved("r", 0), [(stock, book[0][1][-1:] + book[0][1][:-1])]), (2, ["p", "q", "r"]))
            wrong = [(stock, [("p", great - 1), ("q", 5), ("r", 0)])]
            self.assertEqual((order_for(line, wrong), first_wronged(line, wrong)), (None, (0, "p", great, great - 1)))
            self.assertTrue(is_right_stuck(line, wrong, stuck(line, wrong)))


class StuckLots(ElderCase):
    def test_all_lots_of_small_lines(self):
        several = 0
        for line, book in cases():
            right = [lot for lot in lots(sorted(line.names()), 0) if is_right_stuck(line, book, lot)]
            several += len(right) > 1
            for lot in lots(sorted(line.names()), 0):
                self.assertIs(check_stuck(line, book, lot), lot in right)
            self.assertEqual(bool(right), order_for(line, book) is None)
        self.assertGreater(several, 3)

    def test_bent(self):
        for line, book in itertools.islice(cases(), 0, None, 9):
            for value in [*bent(stuck(line, book) or []), *spoiled(stuck(line, book)), line.names(), sorted(line.names())]:
                kept = repr_of(value)
                self.assertIs(check_stuck(line, book, value), is_right_stuck(line, book, value))
                self.assertEqual(repr_of(value), kept)
        more = ONE + [({"o": 1}, [("ann", 0), ("ben", 0), ("cy", 1)]), ({"o": 1}, [("ann", 1), ("ben", 0), ("cy", 0)])]
        self.assertEqual([check_stuck(THREE, more, lot) for lot in ([], ["cy"], (), None, [1], ["ann", "ben", "cy"], ["zoe"])],
                         [True] + [False] * 6)


class Books(ElderCase):
    def test_wrong_books(self):
        right = [({"o": 3, "z": 0}, [("ann", 2), ("ben", 0), ("cy", 1)])]
        wrong = [value for value in [*bent(right), *spoiled(right)] if not is_right_book(THREE, value)]
        wrong += [tuple(right), right[0], [list(right[0])], [({"o": -1}, right[0][1])], [({"o": True}, right[0][1])],
                  [({"O": 1}, right[0][1])], [(None, right[0][1])], [(right[0][0],)], [(*right[0], 1)], dict(enumerate(right)),
                  right + [None], right + [({"o": 3}, [("ann", 3), ("ben", 0), ("cy", 0)])], [({"o": 3}, right[0][1][:2])],
                  [({"o": 3}, right[0][1][::-1])], [({"o": 3}, dict(right[0][1]))], [({"o": 3}, tuple(right[0][1]))],
                  [({"o": 3}, [("ann", 2), ("ben", 0), ("cy", True)])], [({"o": 3}, [["ann", 2], ("ben", 0), ("cy", 1)])],
                  [({"o": 3}, [("ann", 2), ("ben", 0), ("zoe", 1)])], [({"a": 1}, [("ann", 1), ("bob", 0), ("cat", 0)])]]
        for value in wrong:
            for function in FUNCTIONS:
                self.refused(InvalidTold, value, function, THREE, value)
            self.refused(InvalidTold, value, check_stuck, THREE, value, [])
        self.assertGreater(len(wrong), 150)
        for function in FUNCTIONS:
            self.assertEqual(function(THREE, right), function(THREE, ONE))

    def test_the_line_comes_first(self):
        for value in strange_but(is_line):
            for function in FUNCTIONS:
                self.refused(InvalidLine, value, function, value, None)
            self.refused(InvalidLine, value, check_stuck, value, None, None)

    def test_a_book_for_another_line(self):
        book = [({"a": 1}, [("ann", 1), ("bob", 0), ("cat", 0)])]
        self.assertEqual(first_wronged(trio(), book), None)
        for other in (trio().without("cat"), trio().moved("cat", 0), Line([]), THREE):
            for function in FUNCTIONS:
                self.refused(InvalidTold, book, function, other, book)

    def test_books_that_are_changed_in_place(self):
        book = [({"o": 3}, [("ann", 2), ("ben", 0), ("cy", 1)])]
        self.assertEqual(count_orders(THREE, book), 2)
        book[0][0]["o"] = 5
        self.assertEqual((count_orders(THREE, book), first_wronged(THREE, book)), (0, (0, "ben", 2, 0)))
        book[0][1][1] = ("ben", 2)
        self.assertEqual((count_orders(THREE, book), first_wronged(THREE, book)), (6, None))
        found = nearest(THREE, book)
        found[1].clear()
        must(THREE, book).append(None)
        self.assertEqual((nearest(THREE, book), must(THREE, book)), ((0, ["ann", "ben", "cy"]), []))
