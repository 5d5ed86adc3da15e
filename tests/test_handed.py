"""[124]: day by day, against bags given out one by one."""

import itertools

from elderlink.days import DayLine, by_days, cells, foreseen, foresight, handed, handed_deal, unrolled, unused
from elderlink.errors import InvalidDayLine, InvalidSupplies
from elderlink.house import Asker, Line
from tests.samples import BIG, ElderCase, HUGE, is_day_line, strange, strange_but
from tests.test_days import TWO, are_right_supplies, cells_for, drawn_day_lines, drawn_supplies, foreseen_by
from tests.ways import all_givings, deal_of

LOST = DayLine(Line([Asker("pam", ["a", "o"], 1), Asker("quin", ["a"], 1)]), {"o": 2, "a": 1}, {"pam": 0, "quin": 1})
SIGNS = "abcdefghijklmnopqrstuvwxyz"


def by_hand(day_line, supplies):
    """[124] by its words: for each day the deal, then of all ways to give it the one that uses most of the first cells."""
    keeps, days = day_line.keeps(), day_line.days()
    rest = {cell: count for cell, count in supplies.items() if count}
    found = []
    for day in sorted(set(days.values())):
        there = [cell for cell in rest if cell[1] <= day <= cell[1] + keeps[cell[0]]]
        order = sorted(there, key=lambda cell: (cell[1] + keeps[cell[0]], cell[1], cell[0]))
        # Called so that all_givings, which goes by the names, tells the cells in this order; it wants each to fit somebody.
        own = [asker for asker in day_line.line().askers() if days[asker.name] == day]
        order = [cell for cell in order if any(cell in cells_for(day_line, asker) for asker in own)]
        names = {cell: SIGNS[at] for at, cell in enumerate(order)}
        stock = {names[cell]: rest[cell] for cell in order}
        askers = [Asker(asker.name, [names[cell] for cell in order if cell in cells_for(day_line, asker)] or ["zz"], asker.most)
                  for asker in own]
        counts = deal_of(Line(askers), stock)
        ends = all_givings(askers, stock)[tuple(count for _, count in counts)]
        best = min(ends, key=lambda end: [end[names[cell]] for cell in order])
        used = [(cell, rest[cell] - best[names[cell]]) for cell in order if rest[cell] > best[names[cell]]]
        for cell, count in used:
            rest[cell] -= count
        found.append((day, counts, used))
    return found, rest


def small_cases():
    yield DayLine(Line([]), {"a": 1}, {}), {("a", 0): 3}
    for seed, lines in ((1221, drawn_day_lines(1221, 30, 3, "ab", 2)), (1222, drawn_day_lines(1222, 25, 4, "abc", 2, 2, 3))):
        for at, day_line in enumerate(lines):
            for supplies in drawn_supplies(seed + at, 3, day_line, 2):
                yield day_line, supplies


class DayByDay(ElderCase):
    def test_by_hand(self):
        several = 0
        for day_line, supplies in small_cases():
            told, rest = by_hand(day_line, supplies)
            several += sum(len(used) > 1 for _, _, used in told)
            self.assertEqual(handed(day_line, supplies), told)
            counts = {name: count for _, own, _ in told for name, count in own}
            self.assertEqual(handed_deal(day_line, supplies), [(name, counts[name]) for name in day_line.line().names()])
            fits = {cell for asker in day_line.line().askers() for cell in cells_for(day_line, asker)}
            self.assertEqual(unused(day_line, supplies), sorted((cell, count) for cell, count in rest.items() if count and cell in fits))
            ahead = sum(count for _, count in foreseen_by(day_line, supplies))
            self.assertEqual(foresight(day_line, supplies), ahead - sum(counts.values()))
        self.assertGreater(several, 20)

    def test_what_holds_of_all(self):
        for day_line in [*drawn_day_lines(1223, 40, 6, "abcd", 3, 4, 3), *drawn_day_lines(1224, 6, 8, "abcd", BIG, 6, 6)]:
            most = max(asker.most for asker in day_line.line().askers())
            for supplies in drawn_supplies(1225, 2, day_line, most, 6):
                found = handed(day_line, supplies)
                counts, turned = dict(handed_deal(day_line, supplies)), dict(by_days(day_line, supplies))
                days = sorted(set(day_line.days().values()))
                self.assertEqual([day for day, _, _ in found], days)
                for day, own, used in found:
                    self.assertEqual([name for name, _ in own],
                                     [name for name in day_line.line().names() if day_line.days()[name] == day])
                    self.assertEqual(sum(count for _, count in used), sum(count for _, count in own))
                    self.assertTrue(all(count > 0 for _, count in used))
                    names = [name for name in counts if day_line.days()[name] <= day]
                    mine, theirs = sum(counts[name] for name in names), sum(turned[name] for name in names)
                    self.assertTrue(mine <= theirs <= 2 * mine)
                first = [name for name in counts if day_line.days()[name] == days[0]]
                self.assertEqual([counts[name] for name in first], [turned[name] for name in first])
                self.assertTrue(0 <= foresight(day_line, supplies) <= sum(counts.values()))
                used = {}
                for _, _, part in found:
                    for cell, count in part:
                        used[cell] = used.get(cell, 0) + count
                rest = dict(unused(day_line, supplies))
                self.assertEqual({cell: used.get(cell, 0) + rest.get(cell, 0) for cell in {*used, *rest}},
                                 {cell: count for cell, count in supplies.items() if count and cell in cells(day_line)})

    def test_the_same_kinds_fit_all(self):
        for day_line in drawn_day_lines(1226, 25, 4, "abc", 3):
            line = Line([Asker(asker.name, ["a", "b", "c"], asker.most) for asker in day_line.line().askers()])
            same = DayLine(line, day_line.keeps(), day_line.days())
            for supplies in drawn_supplies(1227, 3, same, 3):
                self.assertEqual(handed_deal(same, supplies), by_days(same, supplies))
                self.assertEqual(foresight(same, supplies), 0)

    def test_the_order_of_the_cells(self):
        line = Line([Asker("p", ["a", "b", "c"], 4), Asker("q", ["b"], 2)])
        day_line = DayLine(line, {"a": 2, "b": 1, "c": 0}, {"p": 2, "q": 3})
        supplies = {("a", 0): 1, ("b", 1): 1, ("c", 2): 1, ("a", 1): 1, ("b", 2): 1, ("a", 2): 1}
        self.assertEqual(handed(day_line, supplies), [
            (2, [("p", 4)], [(("a", 0), 1), (("b", 1), 1), (("c", 2), 1), (("a", 1), 1)]), (3, [("q", 1)], [(("b", 2), 1)])])
        self.assertEqual(unused(day_line, supplies), [(("a", 2), 1)])

    def test_cells_of_days_without_askers(self):
        line = Line([Asker("p", ["a"], 2), Asker("q", ["a"], 2)])
        day_line = DayLine(line, {"a": 1, "z": 4}, {"p": 1, "q": 4})
        supplies = {("a", 0): 1, ("a", 2): 5, ("a", 3): 1, ("a", 4): 0, ("z", 1): 3, ("a", 1): 2}
        self.assertEqual(handed(day_line, supplies), [
            (1, [("p", 2)], [(("a", 0), 1), (("a", 1), 1)]), (4, [("q", 1)], [(("a", 3), 1)])])
        self.assertEqual(unused(day_line, supplies), [(("a", 1), 1)])

    def test_great_counts(self):
        for great in (BIG, HUGE):
            line = Line([Asker("p", ["a", "o"], great), Asker("q", ["a"], great)])
            day_line = DayLine(line, {"o": 2, "a": 1}, {"p": 0, "q": 1})
            supplies = {("o", 0): great, ("a", 0): great - 1}
            self.assertEqual(handed(day_line, supplies), [(0, [("p", great)], [(("a", 0), great - 1), (("o", 0), 1)]), (1, [("q", 0)], [])])
            self.assertEqual((unused(day_line, supplies), foresight(day_line, supplies)), ([(("o", 0), great - 1)], great - 1))
            self.assertEqual(handed_deal(day_line, supplies), [("p", great), ("q", 0)])

    def test_supplies_that_tell_the_same(self):
        for one, other in (({("a", 0): 1}, {("a", 0): 1, ("o", 0): 0}), ({}, {("o", 9): 0}),
                           ({("a", 0): 1, ("o", 0): 2}, {("o", 0): 2, ("a", 0): 1})):
            for function in (handed, handed_deal, unused, foresight, foreseen, by_days):
                self.assertEqual(function(LOST, one), function(LOST, other))
                found = function(LOST, one)
                if isinstance(found, list):
                    kept = list(found)
                    found.clear()
                    self.assertEqual(function(LOST, one), kept)
        supplies = {("a", 0): 1}
        handed(LOST, supplies)[0][2].clear()
        handed(LOST, supplies)[0][1].clear()
        self.assertEqual(handed(LOST, supplies)[0], (0, [("pam", 1)], [(("a", 0), 1)]))
        supplies[("a", 0)] = 2
        self.assertEqual((handed_deal(LOST, supplies), supplies), ([("pam", 1), ("quin", 1)], {("a", 0): 2}))

    def test_refused(self):
        for function in (handed, handed_deal, unused, foresight):
            for value in strange_but(is_day_line):
                self.refused(InvalidDayLine, value, function, value, None)
            for value in [{("b", 0): 1}, {("a", True): 1}, {("a", 0): -1}, {"a": 1}, *strange()]:
                if not are_right_supplies(TWO, value):
                    self.refused(InvalidSupplies, value, function, TWO, value)
        self.assertEqual(list(itertools.chain(*[asker.fits for asker in unrolled(LOST).askers()])), ["a", "c", "a", "b"])
