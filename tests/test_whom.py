"""[83] and [85]: to whom an asker, or a newcomer, can cost something, and from how few bags on."""

import itertools

from elderlink.costs import cost, first_cost, first_stock, greatest_cost, newcomer, whom
from elderlink.errors import InvalidAsker, InvalidCount, TakenName, UnknownName
from elderlink.house import Asker, Line
from elderlink.orders import touched
from tests.samples import BIG, ElderCase, HUGE, is_asker, is_right_count, repr_of, strange_but, trio
from tests.ways import all_lines, all_stocks, cost_of, drawn_lines, line_of, lots, patterned_lines, rows_of


def small_lines():
    yield from itertools.islice(all_lines(2, "abc", (1, 2)), 0, None, 3)
    yield from itertools.islice(all_lines(3, "ab", (1, 2)), 0, None, 2)
    yield from itertools.islice(patterned_lines(3, "abc"), 0, None, 3)
    yield from drawn_lines(71, 10, 4, "abc", 2)


def pairs_of(line):
    return itertools.combinations(line.names(), 2)


class Whom(ElderCase):
    def test_against_all_small_stocks(self):
        for line in small_lines():
            kinds = line.kinds()
            stocks = list(all_stocks(kinds, 5 if len(kinds) < 3 else 3))
            for name in line.names():
                found = []
                for other in line.names()[line.place(name) + 1:]:
                    best = max(cost_of(line, [name], [other], stock) for stock in stocks)
                    if best > 0:
                        found.append((other, best))
                told = whom(line, name)
                self.assertEqual([other for other, _ in told], [other for other, _ in found])
                for (other, most), (_, best) in zip(told, found):
                    # With three kinds the stocks gone through may be too small for the greatest cost.
                    self.assertTrue(most == best or (len(kinds) > 2 and most > best))
                    self.assertEqual(most, greatest_cost(line, [name], [other]))

    def test_they_are_those_that_are_touched(self):
        for line in [*drawn_lines(72, 30, 6, "abcdefgh", 4), *drawn_lines(73, 15, 8, "abcdefghijkl", 4)]:
            for name in line.names():
                self.assertEqual([other for other, _ in whom(line, name)], touched(line, name))

    def test_newcomer(self):
        for line in [Line([]), *drawn_lines(74, 25, 5, "abcdef", 3)]:
            for asker in (Asker("new", ["a", "c"], 2), Asker("aa", ["b"], 4), Asker("zzz", ["q"], 1)):
                for at in range(len(line) + 1):
                    found = newcomer(line, asker, at)
                    self.assertEqual(found, whom(line.put_in(asker, at), asker.name))
                    self.assertEqual(found, newcomer(at=at, asker=asker, line=line))
                self.assertEqual(newcomer(line, asker, len(line)), [])

    def test_newcomer_against_small_stocks(self):
        for line in itertools.islice(small_lines(), 0, None, 17):
            asker = Asker("new", ["a"], 2)
            for at in range(len(line) + 1):
                other = line.put_in(asker, at)
                for name in line.names()[at:]:
                    best = max(cost_of(other, ["new"], [name], stock) for stock in all_stocks("ab", 5))
                    self.assertGreaterEqual(dict(newcomer(line, asker, at)).get(name, 0), best)
                    if len(line.kinds()) < 3 and "c" not in line.kinds():
                        self.assertEqual(dict(newcomer(line, asker, at)).get(name, 0), best)

    def test_newcomer_refused(self):
        new = Asker("new", ["a"], 1)
        for value in strange_but(is_asker):
            for at in (0, None, -1):
                self.refused(InvalidAsker, value, newcomer, trio(), value, at)
        for asker in (Asker("bob", ["z"], 9), trio().asker("bob")):
            for at in (0, None, 9):
                self.refused(TakenName, asker.name, newcomer, trio(), asker, at)
        for value in strange_but(lambda value: is_right_count(value) and value <= 3) + [4]:
            self.refused(InvalidCount, value, newcomer, trio(), new, value)
        self.refused(InvalidCount, 1, newcomer, Line([]), new, 1)

    def test_great_mosts(self):
        for great in (BIG, HUGE):
            line = line_of(["a", "ab", "b"], [great, great - 5, great])
            self.assertTrue(whom(line, "m") == [("c", great - 5), ("x", great - 5)])
            self.assertTrue(newcomer(line, Asker("new", ["b"], great - 9), 1) == [("c", great - 9), ("x", great - 9)])

    def test_results_are_new(self):
        line = line_of(["a", "a", "a"], [1, 2, 3])
        whom(line, "m").clear()
        newcomer(line, Asker("new", ["a"], 1), 0).clear()
        self.assertEqual(whom(line, "m"), [("c", 1), ("x", 1)])
        self.assertEqual(newcomer(line, Asker("new", ["a"], 1), 0), [("m", 1), ("c", 1), ("x", 1)])


def least_by_lots(line, name, other):
    """[85] by its last words: the least, over all lots of kinds by which a row leads, of the mosts of who fits."""
    askers = line.askers()[:line.place(other) + 1]
    found = []
    for kinds in lots(line.kinds()):
        some = [Asker(each.name, [kind for kind in each.fits if kind in kinds], each.most)
                for each in askers if any(kind in kinds for kind in each.fits)]
        names = [each.name for each in some]
        if name in names and other in names and rows_of(Line(some), [name], [other]):
            found.append(1 + sum(each.most for each in some if each.name not in (name, other)))
    return min(found) if found else None


class First(ElderCase):
    def judged(self, line, name, other, expected):
        self.assertEqual(first_cost(line, name, other), expected)
        stock = first_stock(line, name, other)
        if expected is None:
            self.assertIsNone(stock)
            return
        self.assertEqual(sum(stock.values()), expected)
        self.assertNotIn(0, stock.values())
        self.assertGreater(cost_of(line, [name], [other], stock), 0)
        self.assertGreater(cost(line, [name], [other], stock), 0)

    def test_against_all_small_stocks(self):
        for line in small_lines():
            kinds, top = line.kinds(), sum(asker.most for asker in line.askers())
            stocks = sorted(all_stocks(kinds, min(top, 6)), key=lambda stock: sum(stock.values()))
            for name, other in pairs_of(line):
                best = next((sum(stock.values()) for stock in stocks if cost_of(line, [name], [other], stock) > 0), None)
                if best is not None or top <= 6:
                    self.judged(line, name, other, best)

    def test_against_all_lots_of_kinds(self):
        for line in [*drawn_lines(75, 40, 5, "abcde", 4), *drawn_lines(76, 10, 7, "abcdef", 5)]:
            for name, other in itertools.islice(pairs_of(line), 0, None, 1 if len(line) < 7 else 5):
                self.judged(line, name, other, least_by_lots(line, name, other))

    def test_a_longer_row_can_need_fewer_bags(self):
        # By o a great elder must be filled ahead of z; by a and b, one more asker on the row, only small ones.
        line = Line([Asker("x", ["o", "a"], 1), Asker("u", ["o"], 50), Asker("y", ["a", "b"], 2), Asker("z", ["o", "b"], 1)])
        self.judged(line, "x", "z", 3)
        self.judged(line.without("y"), "x", "z", 51)
        self.judged(line, "u", "z", 2)

    def test_elders_behind_the_asker_and_ahead_of_it(self):
        line = line_of(["a", "a", "a", "a"], [5, 1, 7, 2])
        self.judged(line, "c", "ba", 13)
        self.judged(line, "c", "x", 6)
        self.judged(line, "m", "ba", 9)

    def test_great_mosts(self):
        for great in (BIG, HUGE):
            line = line_of(["a", "ab", "b"], [great, great - 5, great])
            self.assertTrue(first_cost(line, "m", "x") == great - 4)
            stock = first_stock(line, "m", "x")
            self.assertTrue(sum(stock.values()) == great - 4)
            self.assertTrue(cost(line, ["m"], ["x"], stock) == 1)

    def test_eight_askers_and_six_kinds(self):
        line = line_of(["ab", "bc", "cd", "de", "ef", "af", "bd", "f"], [3, 1, 4, 1, 5, 9, 2, 6])
        for name, other in pairs_of(line):
            stock = first_stock(line, name, other)
            self.assertEqual(first_cost(line, name, other), sum(stock.values()))
            self.assertGreater(cost_of(line, [name], [other], stock), 0)

    def test_names_refused(self):
        names = trio().names()
        for function in (first_cost, first_stock):
            for value in strange_but(lambda value: value in names) + ["dan"]:
                for other in ("cat", None, "ann"):
                    self.refused(UnknownName, value, function, trio(), value, other)
                self.refused(UnknownName, value, function, trio(), "ann", value)
            for name, other in (("ann", "ann"), ("bob", "ann"), ("cat", "bob"), ("cat", "cat")):
                self.refused(UnknownName, other, function, trio(), name, other)
        for value in strange_but(lambda value: value in names):
            self.refused(UnknownName, value, whom, trio(), value)

    def test_equal_lines_tell_the_same(self):
        for line in drawn_lines(77, 20, 5, "abcd", 3):
            again = Line([Asker(asker.name, asker.fits[::-1], asker.most) for asker in line.askers()])
            for name, other in pairs_of(line):
                self.assertEqual(repr_of(first_stock(again, name, other)), repr_of(first_stock(line, name, other)))
