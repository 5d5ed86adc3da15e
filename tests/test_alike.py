"""[72] to [74] and [76]: which orders deal alike, and what parts the others."""

import itertools
import math
import unittest

from elderlink.deals import deal
from elderlink.errors import InvalidLine, Unlike
from elderlink.house import Asker, Line
from elderlink.orders import alike, check_parting, count_alike, count_unlike, exchanges, forest, group, normal, parting
from elderlink.orders import positions, unlike_lines
from tests.samples import BIG, ElderCase, is_line, is_right_stock, repr_of, strange, strange_but, trio
from tests.ways import all_lines, all_stocks, bent, deal_of, drawn_lines, orders_of, parent_of, patterned_lines


def small_lines():
    yield Line([])
    for many in range(1, 4):
        yield from itertools.islice(all_lines(many, "ab", (1, 2)), 0, None, 1 if many < 3 else 5)
    yield from itertools.islice(patterned_lines(3, "abc"), 0, None, 5)
    yield from drawn_lines(41, 8, 4, "abc", 2)
    yield from drawn_lines(42, 8, 4, "abcde", 2)


def greater_lines():
    yield from drawn_lines(43, 20, 5, "abcdefg", 3)
    yield from drawn_lines(44, 6, 6, "abcdefgh", 3)


def parents_of(line):
    return {name: parent_of(line, name) for name in line.names()}


def by_parents(line):
    """All lines of the same askers, ascending by names, with a mark that is the same for those with equal parents."""
    return [(other, tuple(sorted(parents_of(other).items(), key=lambda pair: pair[0]))) for other in orders_of(line)]


def is_right_parting(one, other, value):
    if type(value) is not tuple or len(value) != 2 or not is_right_stock(value[0]):
        return False
    if type(value[1]) is not str or value[1] not in one.names():
        return False
    return dict(deal_of(one, value[0]))[value[1]] != dict(deal_of(other, value[0]))[value[1]]


class Alike(ElderCase):
    def test_alike_against_all_small_stocks(self):
        for line in small_lines():
            kinds = line.kinds()
            stocks = list(all_stocks(kinds, 5 if len(kinds) < 3 else 3 if len(kinds) < 4 else 1))
            deals = [[dict(deal_of(other, stock)) for stock in stocks] for other in orders_of(line)]
            for one, own in zip(orders_of(line), deals):
                for other, told in zip(orders_of(line), deals):
                    if own != told:
                        self.assertIs(alike(one, other), False)
                    elif len(kinds) < 4:
                        self.assertIs(alike(one, other), True)

    def test_alike_and_parting(self):
        for line in [*small_lines(), *greater_lines()]:
            marks = by_parents(line)
            for one, own in marks[:1] + marks[len(marks) // 3:][:1]:
                for other, told in marks:
                    self.assertIs(alike(one, other), own == told)
                    found = parting(one, other)
                    if own == told:
                        self.assertIsNone(found)
                    else:
                        self.assertTrue(is_right_parting(one, other, found), repr_of([one, other, found]))
                        self.assertNotIn(0, found[0].values())
                        self.assertIs(check_parting(one, other, found), True)
                        self.assertIs(check_parting(other, one, found), True)

    def test_parting_of_eight_askers(self):
        for line in drawn_lines(45, 30, 8, "abcdefghijklmnopqrst", BIG):
            for other in (line.ordered(line.names()[::-1]), line.ordered(sorted(line.names())), line.moved("zz", 0)):
                if parents_of(line) != parents_of(other):
                    stock, name = parting(line, other)
                    self.assertNotEqual(dict(deal(line, stock))[name], dict(deal(other, stock))[name])
                    self.assertIs(check_parting(line, other, (stock, name)), True)
                else:
                    self.assertIsNone(parting(line, other))

    def test_who_gets_alike_counts_though_its_group_changes(self):
        line = Line([Asker("e", ["o"], 1), Asker("n", ["o"], 1), Asker("d", ["o"], 1)])
        other = line.ordered(["d", "n", "e"])
        self.assertIn(parting(line, other)[1], ("e", "d"))
        self.assertTrue(is_right_parting(line, other, parting(line, other)))

    def test_check_parting_bent(self):
        for line in [trio(), *drawn_lines(46, 10, 3, "abc", 2)]:
            other = line.ordered(line.names()[::-1])
            right = parting(line, other)
            if right is None:
                right = ({kind: 1 for kind in line.kinds()}, line.names()[0])
            for value in [right, *bent(right), *strange()]:
                self.assertIs(check_parting(line, other, value), is_right_parting(line, other, value), repr_of(value))
            for part in strange():
                for value in ((part, right[1]), (right[0], part), (right[0], right[1], part), (part,)):
                    self.assertIs(check_parting(line, other, value), is_right_parting(line, other, value))

    def test_lines_that_deal_alike_have_no_parting(self):
        line = Line([Asker("m", ["a"], 1), Asker("c", ["b"], 1)])
        for stock in all_stocks("ab", 2):
            for name in ("m", "c"):
                self.assertIs(check_parting(line, line.moved("c", 0), (stock, name)), False)

    def test_empty_lines(self):
        self.assertEqual([alike(Line([]), Line([])), parting(Line([]), Line([])), exchanges(Line([]), Line([]))], [True, None, []])
        self.assertEqual([normal(Line([])), count_alike(Line([])), count_unlike(Line([])), unlike_lines(Line([]))],
                         [Line([]), 1, 1, [Line([])]])
        self.assertIs(check_parting(Line([]), Line([]), ({}, "ann")), False)

    def test_unlike_askers(self):
        line = trio()
        others = [
            Line([]), line.without("ann"), line.put_in(Asker("dan", ["a"], 1), 1), line.changed(Asker("bob", ["a"], 3)),
            line.changed(Asker("bob", ["ab"], 2)), line.changed(Asker("cat", ["b", "ab"], 4)).moved("cat", 0),
            line.without("bob").put_in(Asker("bo", ["a"], 2), 1),
        ]
        for function in (alike, parting, exchanges):
            for other in others:
                self.refused(Unlike, other, function, line, other)
                self.refused(Unlike, line, function, other, line)
                self.refused(Unlike, other, function, other=other, one=line)
        for other in others:
            for value in (None, ({"a": 1}, "ann")):
                self.refused(Unlike, other, check_parting, line, other, value)

    def test_no_lines(self):
        for function, more in ((alike, []), (parting, []), (exchanges, []), (check_parting, [({"a": 1}, "ann")])):
            for value in strange_but(is_line):
                self.refused(InvalidLine, value, function, value, trio(), *more)
                self.refused(InvalidLine, value, function, value, None, *more)
                self.refused(InvalidLine, value, function, trio(), value, *more)
                self.refused(InvalidLine, value, function, Line([]), value, *more)


class Normal(unittest.TestCase):
    def test_against_all_orders(self):
        for line in [*small_lines(), *greater_lines()]:
            marks = by_parents(line)
            classes = {}
            for other, mark in marks:
                classes.setdefault(mark, []).append(other)
            self.assertEqual(count_unlike(line), len(classes))
            for own in classes.values():
                # Of each class the first one in the order of names is the normal one: place by place the least name.
                for one in own[:2] + own[-1:]:
                    self.assertEqual(normal(one), own[0])
                    self.assertEqual(count_alike(one), len(own))
                    for name in line.names():
                        places = sorted({other.place(name) for other in own})
                        self.assertEqual(positions(one, name), (places[0], places[-1]))
                        self.assertEqual(places, list(range(places[0], places[-1] + 1)))
            firsts = sorted([own[0].names() for own in classes.values()])
            found = unlike_lines(line)
            self.assertEqual([each.names() for each in found], firsts)
            self.assertTrue(all(each.askers() == line.ordered(each.names()).askers() for each in found))

    def test_the_number_of_ways_is_a_product_of_sums(self):
        def ways(line):
            parts, names = [], line.names()
            while names:
                part = group(line.moved(names[0], len(line) - 1), names[0])
                parts.append(part)
                names = [name for name in names if name not in part]
            number = 1
            for part in parts:
                askers = [line.asker(name) for name in part]
                if len(part) > 1:
                    number *= sum(ways(Line([each for each in askers if each.name != last])) for last in part)
            return number

        for line in [*drawn_lines(47, 20, 6, "abcdef", 2), *drawn_lines(48, 3, 8, "abcdefghijkl", 2)]:
            self.assertEqual(count_unlike(line), ways(line))

    def test_all_linked_and_none_linked(self):
        many = Line([Asker(name, ["o"], 1) for name in "hgfedcba"])
        apart = Line([Asker(name, ["k" + name], 1) for name in "hgfedcba"])
        self.assertEqual([count_unlike(many), count_unlike(apart)], [math.factorial(8), 1])
        self.assertEqual([count_alike(many), count_alike(apart)], [1, math.factorial(8)])
        self.assertEqual([normal(many), normal(apart).names()], [many, list("abcdefgh")])
        self.assertEqual([positions(many, "f"), positions(apart, "f")], [(2, 2), (0, 7)])
        six = Line([Asker(name, ["o"], 1) for name in "fedcba"])
        self.assertEqual([line.names() for line in unlike_lines(six)], [list(names) for names in itertools.permutations("abcdef")])


class Exchanges(unittest.TestCase):
    def judged(self, one, other, found):
        line = one
        for at in found:
            names = line.names()
            names[at], names[at + 1] = names[at + 1], names[at]
            line = line.ordered(names)
            self.assertEqual(parents_of(line), parents_of(one))
        self.assertEqual(line, other)
        places = {name: at for at, name in enumerate(other.names())}
        pairs = itertools.combinations(one.names(), 2)
        self.assertEqual(len(found), sum(places[name] > places[behind] for name, behind in pairs))

    def test_step_by_step(self):
        for line in [*small_lines(), *greater_lines()]:
            marks = by_parents(line)
            for one, own in marks[:1] + marks[len(marks) // 2:][:1]:
                for other, told in marks:
                    if own != told:
                        self.assertIsNone(exchanges(one, other))
                    else:
                        self.judged(one, other, exchanges(one, other))

    def test_to_the_normal_line(self):
        for line in drawn_lines(49, 40, 8, "abcdefghijklmn", 2):
            self.judged(line, normal(line), exchanges(line, normal(line)))
            self.judged(normal(line), line, exchanges(normal(line), line))
            self.assertEqual(dict(forest(normal(line))), dict(forest(line)))
            self.assertEqual(normal(normal(line)), normal(line))


class Invariants(unittest.TestCase):
    def test_equal_lines_tell_the_same(self):
        for line in drawn_lines(50, 10, 5, "abcdef", 3):
            again = Line([Asker(asker.name, asker.fits[::-1], asker.most) for asker in line.askers()])
            turned = line.ordered(line.names()[::-1])
            for function in (normal, count_alike, count_unlike, unlike_lines, forest):
                self.assertEqual(repr_of(function(again)), repr_of(function(line)))
            for function in (alike, parting, exchanges):
                self.assertEqual(repr_of(function(again, turned)), repr_of(function(line, turned)))
                self.assertEqual(repr_of(function(turned, again)), repr_of(function(turned, line)))
