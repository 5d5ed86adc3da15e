"""[140] to [144]: giving out early, new fits, lesser mosts, and askers put together, against all small stocks."""

import itertools

from elderlink.deals import deal, left
from elderlink.early import check_early, early_matters, early_pairs, fit_harms, fit_stock, gathered, in_steps, merged, winner
from elderlink.errors import InvalidKind, InvalidLine, InvalidStock, UnknownName
from elderlink.house import Asker, Line, added, recalled, total
from elderlink.live import House
from elderlink.orders import touched
from tests.samples import BIG, ElderCase, HUGE, is_line, is_right_name, is_right_stock, repr_of, spoiled, strange, strange_but
from tests.samples import trio
from tests.ways import all_lines, all_stocks, bent, deal_of, drawn_lines, drawn_stocks, line_of, patterned_lines, share

TWO = Line([Asker("eve", ["a", "b"], 1), Asker("sam", ["a"], 1)])


def small_lines():
    yield Line([])
    yield from all_lines(1, "ab", (1, 2))
    yield from all_lines(2, "ab", (1, 2))
    yield from itertools.islice(all_lines(3, "ab", (1, 2)), 0, None, 9)


def larger_lines():
    yield from itertools.islice(patterned_lines(3, "abc"), 0, None, 5)
    yield from drawn_lines(1401, 20, 5, "abcd", 3)


def steps_of(line, first, later):
    """[140] with a house of lists, by the tests' own deal."""
    counts = dict(deal_of(line, first))
    rest = left(line, first, list(counts.items()))
    waiting = Line([Asker(asker.name, asker.fits, asker.most - counts[asker.name]) for asker in line.askers()
                    if asker.most > counts[asker.name]])
    more = dict(deal_of(waiting, {kind: rest.get(kind, 0) + later.get(kind, 0) for kind in {*rest, *later}}))
    return [(name, counts[name] + more.get(name, 0)) for name in line.names()]


def is_right_early(line, value):
    """[141] by its words."""
    if type(value) is not tuple or len(value) != 3 or type(value[0]) is not str or value[0] not in line.names():
        return False
    name, first, later = value
    if not is_right_stock(first) or not is_right_stock(later):
        return False
    both = {kind: first.get(kind, 0) + later.get(kind, 0) for kind in {*first, *later}}
    return dict(steps_of(line, first, later))[name] != dict(deal_of(line, both))[name]


class InSteps(ElderCase):
    def test_against_houses_that_give_out(self):
        for at, line in enumerate([*small_lines(), *larger_lines()]):
            for first in drawn_stocks(at, 2, "abcz", 3):
                for later in drawn_stocks(at + 7, 2, "abcz", 3):
                    found = in_steps(line, first, later)
                    self.assertEqual(found, steps_of(line, first, later))
                    house = House(line, first)
                    house.give()
                    for kind, count in later.items():
                        house.bring(kind, count)
                    house.give()
                    self.assertEqual([pair for pair in sorted(found) if pair[1]], house.given())
                    self.assertEqual(in_steps(line, {}, later), deal(line, later))
                    self.assertEqual(in_steps(line, first, {"z": 1}), deal(line, first))

    def test_great_counts(self):
        for great in (BIG, HUGE):
            line = Line([Asker("eve", ["a", "b"], great), Asker("sam", ["a"], great)])
            self.assertEqual(in_steps(line, {"a": great}, {"b": great}), [("eve", great), ("sam", 0)])
            self.assertEqual(in_steps(line, {"b": great - 1}, {"a": great}), [("eve", great), ("sam", great - 1)])
            name, first, later = early_matters(line)
            self.assertIs(check_early(line, (name, first, later)), True)

    def test_refused(self):
        for value in strange_but(is_line):
            self.refused(InvalidLine, value, in_steps, value, None, None)
        for value in strange_but(is_right_stock):
            self.refused(InvalidStock, value, in_steps, TWO, value, None)
            self.refused(InvalidStock, value, in_steps, TWO, {}, value)


class Matters(ElderCase):
    def test_pairs(self):
        for line in [*small_lines(), *larger_lines()]:
            found = []
            for elder, asker in itertools.combinations(line.askers(), 2):
                if share(elder, asker) and any(kind not in asker.fits for kind in elder.fits):
                    found.append((elder.name, asker.name))
            self.assertEqual(early_pairs(line), found)
            told = early_matters(line)
            self.assertEqual(told is None, not found)
            if told is not None:
                self.assertTrue(is_right_early(line, told))
                self.assertIs(check_early(line, told), True)
                self.assertFalse(0 in told[1].values() or 0 in told[2].values())

    def test_against_all_small_stocks(self):
        never = 0
        for line in small_lines():
            stocks = list(all_stocks("ab", 3))
            matters = any(in_steps(line, first, later) != deal(line, added(first, later))
                          for first in stocks for later in stocks)
            self.assertEqual(early_matters(line) is not None, matters)
            never += not matters
        self.assertGreater(never, 20)

    def test_nobody_need_wait(self):
        """[141]: where it does not matter, it does not matter for any row of stocks."""
        rows = 0
        for line in [*small_lines(), *larger_lines(), *drawn_lines(1402, 60, 4, "abcdef", 3)]:
            if early_pairs(line):
                continue
            stocks = list(drawn_stocks(rows, 4, "abcdef", 2))
            house, whole = House(line, {}), {}
            for stock in stocks:
                whole = added(whole, stock)
                for kind in stock:
                    house.bring(kind, stock[kind])
                house.give()
            rows += 1
            self.assertEqual(house.given(), sorted(pair for pair in deal(line, whole) if pair[1]))
        self.assertGreater(rows, 40)

    def test_bent(self):
        for line in (TWO, line_of(["bc", "ab", "b"], [2, 1, 2])):
            found = early_matters(line)
            for value in [*bent(found), *spoiled(found), ("sam", {"a": 1}, {"b": 1}), ("sam", {"a": 1}, {}), ("eve", {"a": 1}, {"b": 1})]:
                kept = repr_of(value)
                self.assertIs(check_early(line, value), is_right_early(line, value), kept)
                self.assertEqual(repr_of(value), kept)
        for value in [*strange(), ("sam", {"a": 1}, {"b": 1})]:
            self.assertIs(check_early(Line([Asker("sam", ["a", "b"], 1)]), value), False)


class NewFits(ElderCase):
    def test_against_all_small_stocks(self):
        for line in small_lines():
            stocks = list(all_stocks("ab" if len(line) < 3 else "ab", 4))
            for asker in line.askers():
                for kind in ("a", "b", "z"):
                    wider = line.changed(Asker(asker.name, sorted({*asker.fits, kind}), asker.most))
                    less = {name: 0 for name in line.names()}
                    for stock in (stocks if kind != "z" else all_stocks("abz", 2)):
                        for (name, before), (_, after) in zip(deal_of(line, stock), deal_of(wider, stock)):
                            less[name] = max(less[name], before - after)
                    found = fit_harms(line, asker.name, kind)
                    self.assertEqual(found, [(name, less[name]) for name in line.names() if less[name] > 0])

    def test_stocks(self):
        harmed = 0
        for line in [*small_lines(), *larger_lines(), *drawn_lines(1403, 4, 8, "abcdef", BIG)]:
            for asker in line.askers():
                for kind in ("a", "b", "z"):
                    found = dict(fit_harms(line, asker.name, kind))
                    wider = line.changed(Asker(asker.name, sorted({*asker.fits, kind}), asker.most))
                    for other in line.names():
                        stock = fit_stock(line, asker.name, kind, other)
                        self.assertEqual(stock is None, other not in found)
                        if stock is not None:
                            harmed += 1
                            self.assertTrue(is_right_stock(stock) and 0 not in stock.values())
                            before, after = dict(deal_of(line, stock)), dict(deal_of(wider, stock))
                            self.assertEqual(before[other] - after[other], found[other])
                            self.assertGreater(line.place(other), line.place(asker.name))
        self.assertGreater(harmed, 200)

    def test_larger_lines_never_more(self):
        for line in itertools.islice(larger_lines(), 0, None, 3):
            for asker in line.askers()[:2]:
                for kind in "abcd":
                    wider = line.changed(Asker(asker.name, sorted({*asker.fits, kind}), asker.most))
                    found = dict(fit_harms(line, asker.name, kind))
                    for stock in drawn_stocks(1404, 12, "abcd", 4):
                        for (name, before), (_, after) in zip(deal(line, stock), deal(wider, stock)):
                            self.assertLessEqual(before - after, found.get(name, 0))

    def test_a_kind_that_fits(self):
        for line in larger_lines():
            for asker in line.askers():
                for kind in asker.fits:
                    self.assertEqual(fit_harms(line, asker.name, kind), [])
                    self.assertEqual({fit_stock(line, asker.name, kind, other) is None for other in line.names()}, {True})

    def test_refused(self):
        line = trio()
        for value in strange_but(is_line):
            self.refused(InvalidLine, value, fit_harms, value, None, None)
            self.refused(InvalidLine, value, fit_stock, value, None, None, None)
        for value in strange_but(lambda value: value in ("ann", "bob", "cat")):
            self.refused(UnknownName, value, fit_harms, line, value, None)
            self.refused(UnknownName, value, fit_stock, line, value, None, None)
            self.refused(UnknownName, value, fit_stock, line, "ann", "z", value)
            self.refused(UnknownName, value, fit_stock, line, "ann", "a", value)
        for value in strange_but(is_right_name):
            self.refused(InvalidKind, value, fit_harms, line, "cat", value)
            self.refused(InvalidKind, value, fit_stock, line, "cat", value, None)


class Winners(ElderCase):
    def test_by_both_deals(self):
        for at, line in enumerate([*small_lines(), *larger_lines()]):
            for stock in drawn_stocks(at, 3, "abcdz", 4):
                before = dict(deal_of(line, stock))
                for asker in line.askers():
                    less = line.without(asker.name)
                    if asker.most > 1:
                        less = line.changed(Asker(asker.name, asker.fits, asker.most - 1))
                    more = [(name, count - before[name]) for name, count in deal_of(less, stock) if count != before[name]]
                    others = [pair for pair in more if pair[0] != asker.name]
                    self.assertIn(others, ([], [(winner(line, stock, asker.name), 1)]))
                    self.assertEqual(winner(line, stock, asker.name), others[0][0] if others else None)

    def test_over_all_stocks_those_that_are_touched(self):
        for line in small_lines():
            for name in line.names():
                found = {winner(line, stock, name) for stock in all_stocks("ab", 4)} - {None}
                self.assertEqual([other for other in line.names() if other in found], touched(line, name))

    def test_great_counts(self):
        for great in (BIG, HUGE):
            line = line_of(["a", "ab", "b"], [great, great, great])
            self.assertEqual([winner(line, {"a": 2 * great - 1, "b": 1}, name) for name in line.names()], ["x", "x", None])
            self.assertEqual([winner(line, {"a": great, "b": 5}, name) for name in line.names()], ["c", None, None])

    def test_refused(self):
        for value in strange_but(is_line):
            self.refused(InvalidLine, value, winner, value, None, None)
        for value in strange_but(is_right_stock):
            self.refused(InvalidStock, value, winner, trio(), value, None)
        for value in strange_but(lambda value: value in ("ann", "bob", "cat")):
            self.refused(UnknownName, value, winner, trio(), {}, value)


class PutTogether(ElderCase):
    def test_merged_and_gathered_deal_as_before(self):
        put = 0
        for at, line in enumerate([*small_lines(), *larger_lines(), *drawn_lines(1405, 30, 6, "ab", 3)]):
            for asker, behind in zip(line.askers(), line.askers()[1:] + [None]):
                found = merged(line, asker.name)
                self.assertEqual(found is None, behind is None or behind.fits != asker.fits)
                if found is None:
                    continue
                put += 1
                self.assertEqual(found.names(), [name for name in line.names() if name != behind.name])
                self.assertEqual(found.asker(asker.name), Asker(asker.name, asker.fits, asker.most + behind.most))
                for stock in drawn_stocks(at, 3, "abcd", 5):
                    counts = dict(deal_of(line, stock))
                    counts[asker.name] += counts.pop(behind.name)
                    self.assertEqual(dict(deal_of(found, stock)), counts)
            self.gathered_of(line)
        self.assertGreater(put, 60)

    def gathered_of(self, line):
        found = line
        while any(merged(found, name) is not None for name in found.names()):
            first = [name for name in found.names() if merged(found, name) is not None][0]
            found = merged(found, first)
        self.assertEqual(gathered(line), found)
        self.assertEqual(gathered(found), found)

    def test_many_in_a_row(self):
        line = line_of(["ab", "ba", "a", "a", "a", "ab", "b", "b"], [1, 2, 3, 4, 5, 6, 7, BIG])
        self.assertEqual([(asker.name, asker.most) for asker in gathered(line).askers()], [("m", 3), ("x", 12), ("b", 6), ("zz", BIG + 7)])
        self.assertEqual(gathered(Line([])), Line([]))
        same = line_of(["ab"] * 5, [HUGE] * 5)
        self.assertEqual(gathered(same), Line([Asker("m", ["a", "b"], 5 * HUGE)]))
        self.assertEqual(len(same), 5)

    def test_what_holds_besides(self):
        """[144]: fewer kinds or a lesser most never bring more; behind a giving out nobody gets a bag of what is left."""
        for line in itertools.islice(larger_lines(), 0, None, 2):
            for stock in drawn_stocks(1406, 3, "abcd", 4):
                counts = dict(deal(line, stock))
                for asker in line.askers():
                    for fits in itertools.combinations(asker.fits, len(asker.fits) - 1):
                        if fits:
                            fewer = deal(line.changed(Asker(asker.name, list(fits), asker.most)), stock)
                            self.assertLessEqual(dict(fewer)[asker.name], counts[asker.name])
                house = House(line, stock)
                house.give()
                self.assertEqual(sum(count for _, count in house.deal()), 0)

    def test_refused(self):
        for value in strange_but(is_line):
            self.refused(InvalidLine, value, merged, value, None)
            self.refused(InvalidLine, value, gathered, value)
            self.refused(InvalidLine, value, early_pairs, value)
            self.refused(InvalidLine, value, early_matters, value)
            self.refused(InvalidLine, value, check_early, value, None)
        for value in strange_but(lambda value: value in ("ann", "bob", "cat")):
            self.refused(UnknownName, value, merged, trio(), value)
        self.assertEqual((merged(trio(), "cat"), total({"a": 1})), (None, 1))

    def test_called_otherwise(self):
        names = {"m": "c", "c": "m"}
        for line in drawn_lines(1407, 20, 4, "abc", 3):
            other = recalled(line, names)
            self.assertEqual(early_pairs(other), [(names.get(one, one), names.get(two, two)) for one, two in early_pairs(line)])
            for stock in drawn_stocks(1408, 2, "abc", 3):
                for name in line.names():
                    found = winner(line, stock, name)
                    self.assertEqual(winner(other, stock, names.get(name, name)), names.get(found, found))
