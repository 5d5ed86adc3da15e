"""[120] to [123]: lines with days, their cells, deals foreseen and by days, and whether what comes later matters."""

import itertools
import random

from elderlink import claims, costs, gains, orders, papers
from elderlink.days import DayLine, alike_days, by_days, cells, check_later, day_order, foreseen, later_matters, so_far, unrolled
from elderlink.deals import deal
from elderlink.errors import InvalidCount, InvalidDayLine, InvalidDays, InvalidKeeps, InvalidLine, InvalidSupplies
from elderlink.house import Asker, Line, recalled, renamed
from tests.samples import BIG, ElderCase, HUGE, ann, bob, cat, is_day_line, is_line, is_right_count, is_right_name, strange
from tests.samples import repr_of, spoiled, strange_but, trio
from tests.ways import bent, deal_of, drawn_lines, line_of

TWO = DayLine(Line([Asker("eve", ["o"], 1), Asker("sam", ["a", "o"], 1)]), {"o": 1, "a": 0}, {"eve": 1, "sam": 0})


def drawn_day_lines(seed, number, many, kinds, most, last=2, keep=2):
    draw = random.Random(seed)
    for line in drawn_lines(seed, number, many, kinds, most):
        keeps = {kind: draw.randint(0, keep) for kind in kinds}
        yield DayLine(line, keeps, {name: draw.randint(0, last) for name in line.names()})


def drawn_supplies(seed, number, day_line, most, last=3):
    draw = random.Random(seed)
    every = list(itertools.product(sorted(day_line.keeps()), range(last + 1)))
    for _ in range(number):
        yield {cell: draw.randint(0, most) for cell in draw.sample(every, draw.randint(0, len(every)))}


def cells_for(day_line, asker):
    """[120] by its words."""
    keeps, day = day_line.keeps(), day_line.days()[asker.name]
    return [(kind, come) for kind in keeps for come in range(day + 1)
            if kind in asker.fits and come <= day <= come + keeps[kind]]


def flat(day_line, supplies, order=None):
    """A line whose kinds are the cells, called otherwise, and the stock of supplies."""
    every = sorted({cell for asker in day_line.line().askers() for cell in cells_for(day_line, asker)})
    names = {cell: "k" + cell[0] + "abcdefghij"[cell[1]] for cell in every}
    line = Line([Asker(asker.name, [names[cell] for cell in cells_for(day_line, asker)], asker.most)
                 for asker in day_line.line().askers()])
    return line.ordered(order or line.names()), {names[cell]: supplies.get(cell, 0) for cell in every}


def foreseen_by(day_line, supplies):
    return deal_of(*flat(day_line, supplies))


def by_day(day_line):
    return [name for _, _, name in sorted((day_line.days()[name], at, name) for at, name in enumerate(day_line.line().names()))]


def are_right_supplies(day_line, value):
    if type(value) is not dict or not all(is_right_count(count) for count in value.values()):
        return False
    for cell in value:
        if type(cell) is not tuple or len(cell) != 2 or not is_right_name(cell[0]) or not is_right_count(cell[1]):
            return False
    return all(kind in day_line.keeps() for kind, _ in value)


def is_right_later(day_line, value):
    """[123] by its words."""
    if type(value) is not tuple or len(value) != 3 or value[0] not in day_line.line().names():
        return False
    name, supplies, more = value
    if not are_right_supplies(day_line, supplies) or not are_right_supplies(day_line, more):
        return False
    for asker in day_line.line().askers():
        for cell in cells_for(day_line, asker):
            if cell[1] <= day_line.days()[name] and supplies.get(cell, 0) != more.get(cell, 0):
                return False
    return dict(foreseen_by(day_line, supplies))[name] != dict(foreseen_by(day_line, more))[name]


class TheClass(ElderCase):
    def test_told(self):
        line = Line([ann(), cat()])
        keeps, days = {"a": 0, "ab": 3, "b": 1, "c": 2, "zz": 9}, {"cat": 4, "ann": 0}
        day_line = DayLine(line, keeps, days)
        self.assertEqual((day_line.line(), day_line.keeps(), day_line.days()), (line, keeps, days))
        keeps["a"], days["ann"] = 5, 5
        day_line.keeps().clear()
        day_line.days().clear()
        self.assertEqual((day_line.keeps()["a"], day_line.days()), (0, {"cat": 4, "ann": 0}))
        self.assertEqual(DayLine(days={}, keeps={}, line=Line([])).days(), {})

    def test_equal(self):
        line = Line([bob()])
        one = DayLine(line, {"a": 1, "b": 2}, {"bob": 0})
        self.assertTrue(one == DayLine(Line([bob()]), {"b": 2, "a": 1}, {"bob": 0}))
        self.assertFalse(one != DayLine(Line([bob()]), {"b": 2, "a": 1}, {"bob": 0}))
        for other in (DayLine(line, {"a": 1}, {"bob": 0}), DayLine(line, {"a": 1, "b": 3}, {"bob": 0}),
                      DayLine(line, {"a": 1, "b": 2}, {"bob": 1}), DayLine(Line([Asker("bob", ["a"], 3)]), {"a": 1, "b": 2}, {"bob": 0}),
                      DayLine(line, {"a": 1, "b": 2, "c": 0}, {"bob": 0})):
            self.assertFalse(one == other)
            self.assertTrue(one != other)
        for value in strange():
            self.assertFalse(one == value)
            self.assertFalse(value == one)
        self.assertFalse(one == line)

    def test_wrong_arguments(self):
        line, keeps, days = trio(), {"a": 0, "ab": 1, "b": 1, "c": 2}, {"ann": 0, "bob": 1, "cat": 1}
        for value in strange_but(is_line):
            self.refused(InvalidLine, value, DayLine, value, None, None)
        wrong = [{"a": 0, "ab": 1, "b": 1}, {**keeps, "c": -1}, {**keeps, "c": True}, {**keeps, "c": None}, {**keeps, "D": 1},
                 {**keeps, 1: 1}, {**keeps, "": 0}, {**keeps, ("a",): 1}, list(keeps.items()), {}]
        for value in wrong + strange():
            self.refused(InvalidKeeps, value, DayLine, line, value, None)
        wrong = [{"ann": 0, "bob": 1}, {**days, "dan": 0}, {**days, "cat": -1}, {**days, "cat": True}, {**days, "cat": "1"}, {},
                 {"ann": 0, "bob": 1, "Cat": 1}, list(days.items()), {**days, None: 0}]
        for value in wrong + strange():
            self.refused(InvalidDays, value, DayLine, line, keeps, value)
        self.assertEqual(DayLine(line, {**keeps, "d": 9}, days).keeps()["d"], 9)


class Cells(ElderCase):
    def test_cells_and_unrolled(self):
        for day_line in [TWO, *drawn_day_lines(1201, 20, 4, "abcd", 3), *drawn_day_lines(1202, 8, 8, "abcd", 3, 6, 6)]:
            every = sorted({cell for asker in day_line.line().askers() for cell in cells_for(day_line, asker)})
            self.assertEqual(cells(day_line), every)
            letters = "abcdefghijklmnopqrstuvwxyz"
            names = dict(zip(every, [*letters, *["a" + letter for letter in letters]]))
            told = [Asker(asker.name, [names[cell] for cell in cells_for(day_line, asker)], asker.most)
                    for asker in day_line.line().askers()]
            self.assertEqual(unrolled(day_line), Line(told))
            self.assertEqual(day_order(day_line), day_line.line().ordered(by_day(day_line)))

    def test_more_than_26_cells(self):
        line = line_of(["abcd"] * 8, [1] * 8)
        day_line = DayLine(line, dict.fromkeys("abcd", 6), {name: min(at, 6) for at, name in enumerate(line.names())})
        self.assertEqual(len(cells(day_line)), 28)
        last = unrolled(day_line).askers()[-1]
        self.assertEqual(set(last.fits), {*"abcdefghijklmnopqrstuvwxyz", "aa", "ab"})
        self.assertEqual(unrolled(day_line).askers()[0].fits, ["a", "h", "o", "v"])
        # Just so many cells that the names of two letters go on behind az.
        kinds = "abcdefghi"
        many = DayLine(Line([Asker("x", list(kinds), 1)]), dict.fromkeys(kinds, 6), {"x": 6})
        self.assertEqual(len(unrolled(many).kinds()), 63)
        self.assertTrue({"az", "ba", "bk"} <= set(unrolled(many).kinds()))
        self.assertFalse({"bl", "aaa"} & set(unrolled(many).kinds()))

    def test_the_last_day_on_which_bags_can_be_had(self):
        line = Line([Asker("x", ["a"], 5)])
        for keep in range(4):
            for day in range(4):
                day_line = DayLine(line, {"a": keep, "b": 3}, {"x": day})
                for come in range(6):
                    got = 2 if come <= day <= come + keep else 0
                    self.assertEqual(foreseen(day_line, {("a", come): 2, ("b", come): 3}), [("x", got)])
                self.assertEqual(cells(day_line), [("a", come) for come in range(max(0, day - keep), day + 1)])

    def test_the_unrolled_line_everywhere(self):
        """[3]: it may be passed to all functions of sections 5 to 9 but two, its cells called otherwise, too."""
        line = line_of(["abcd", "ab", "cd", "bc", "abcd", "ad", "c", "abd"], [2, 1, 3, 1, 2, 2, 1, 3])
        day_line = DayLine(line, dict.fromkeys("abcd", 6), {name: at * 6 // 7 for at, name in enumerate(line.names())})
        wide = unrolled(day_line)
        self.assertGreater(len(wide.kinds()), 26)
        turned = dict(zip(wide.kinds(), wide.kinds()[5:] + wide.kinds()[:5]))
        for each in (wide, renamed(wide, turned), wide.without("m"), recalled(wide, {"m": "c", "c": "m"})):
            stock = {kind: at % 2 for at, kind in enumerate(each.kinds())}
            names = each.names()
            self.assertTrue(papers.check_papers(each, stock, papers.papers(each, stock)))
            self.assertTrue(orders.check_parting(each, each.moved(names[-1], 0), orders.parting(each, each.moved(names[-1], 0))))
            self.assertEqual(costs.cost(each, names[:1], names[1:3], costs.worst_stock(each, names[:1], names[1:3])),
                             costs.greatest_cost(each, names[:1], names[1:3]))
            for kind in each.kinds()[::4]:
                found = gains.gain_way(each, stock, kind)
                self.assertEqual(found is None, gains.gainer(each, stock, kind) is None)
                self.assertTrue(found is None or gains.check_way(each, stock, kind, found))
                self.assertEqual(gains.gainer(each, gains.help_stock(each, kind, names[-1]), kind), names[-1])
            self.assertTrue(all(number >= 0 for _, number in gains.spare(each, stock)))
            self.assertEqual(gains.least_help(each, {}, names[-1], 2)[0], gains.least_stock(each, names[-1], 2))
        self.assertEqual(claims.count_orders(wide, claims.lesson(wide)), orders.count_alike(wide))


class Deals(ElderCase):
    def test_foreseen_and_by_days(self):
        for day_line in drawn_day_lines(1203, 40, 4, "abc", 3):
            for supplies in drawn_supplies(1204, 4, day_line, 3):
                ahead = foreseen(day_line, supplies)
                self.assertEqual(ahead, foreseen_by(day_line, supplies))
                turned = by_days(day_line, supplies)
                counts = dict(deal_of(*flat(day_line, supplies, by_day(day_line))))
                self.assertEqual(turned, [(name, counts[name]) for name in day_line.line().names()])
                self.assertEqual(sum(dict(ahead).values()), sum(dict(turned).values()))

    def test_cells_that_fit_nobody(self):
        for day_line in drawn_day_lines(1205, 15, 3, "abc", 3):
            for supplies in drawn_supplies(1206, 2, day_line, 3):
                more = {**supplies, **{(kind, day): 5 for kind in "abc" for day in range(9) if (kind, day) not in cells(day_line)}}
                for function in (foreseen, by_days):
                    self.assertEqual(function(day_line, more), function(day_line, supplies))
                self.assertEqual(so_far(day_line, more, 1), so_far(day_line, supplies, 1))

    def test_so_far(self):
        for day_line in drawn_day_lines(1207, 25, 3, "ab", 2):
            for supplies in drawn_supplies(1208, 2, day_line, 2, 2):
                for day in range(4):
                    later = [cell for cell in cells(day_line) if cell[1] > day]
                    known = {cell: count for cell, count in supplies.items() if cell[1] <= day}
                    deals = [dict(foreseen_by(day_line, {**known, **dict(zip(later, counts))}))
                             for counts in itertools.product((0, 1, 6), repeat=len(later))] if len(later) < 5 else None
                    found = so_far(day_line, supplies, day)
                    names = [name for name in day_line.line().names() if day_line.days()[name] <= day]
                    self.assertEqual([name for name, _, _ in found], names)
                    if deals is not None:
                        self.assertEqual(found, [(name, min(counts[name] for counts in deals),
                                                  max(counts[name] for counts in deals)) for name in names])
                self.assertEqual(so_far(day_line, supplies, 7), [(name, count, count) for name, count in foreseen(day_line, supplies)])

    def test_great_counts(self):
        for great in (BIG, HUGE):
            line = Line([Asker("p", ["a"], great), Asker("q", ["a", "b"], great)])
            day_line = DayLine(line, {"a": 1, "b": 0}, {"p": 1, "q": 0})
            supplies = {("a", 0): great + 1, ("b", 0): great - 3}
            self.assertEqual(foreseen(day_line, supplies), [("p", great), ("q", great - 2)])
            self.assertEqual(by_days(day_line, supplies), [("p", great - 2), ("q", great)])
            self.assertEqual(so_far(day_line, supplies, 0), [("q", great - 2, great)])
            name, some, more = later_matters(day_line)
            self.assertEqual((name, check_later(day_line, (name, some, more))), ("q", True))

    def test_refused(self):
        right = {("o", 0): 1}
        wrong = [{("b", 0): 1}, {("o", -1): 1}, {("o", True): 1}, {("o", 0): True}, {("o", 0): -1}, {"o": 1}, {("o",): 1},
                 {("o", 0, 0): 1}, [(("o", 0), 1)], {("o", None): 1}, {("o", 0): None}, {**right, ("O", 0): 1}, {**right, None: 0},
                 {((), 0): 1}]
        for value in [*wrong, *[value for value in strange() if not are_right_supplies(TWO, value)]]:
            for function in (foreseen, by_days):
                self.refused(InvalidSupplies, value, function, TWO, value)
            self.refused(InvalidSupplies, value, so_far, TWO, value, None)
        for value in strange_but(is_right_count):
            self.refused(InvalidCount, value, so_far, TWO, right, value)
        for value in [*strange_but(is_day_line), trio()]:
            for function in (cells, unrolled, day_order, alike_days, later_matters):
                self.refused(InvalidDayLine, value, function, value)
            for function in (foreseen, by_days, check_later):
                self.refused(InvalidDayLine, value, function, value, None)
            self.refused(InvalidDayLine, value, so_far, value, None, None)
        self.assertEqual(foreseen(TWO, {("o", 9): 3, ("a", 7): BIG}), [("eve", 0), ("sam", 0)])


class Later(ElderCase):
    def test_alike_against_small_supplies(self):
        told = []
        for day_line in [*drawn_day_lines(1209, 40, 3, "ab", 2, 1, 1), *drawn_day_lines(1210, 30, 2, "ab", 2)]:
            every = cells(day_line)
            if len(every) > 4:
                continue
            supplies = [dict(zip(every, counts)) for counts in itertools.product(range(4), repeat=len(every))]
            same = all(foreseen(day_line, each) == by_days(day_line, each) for each in supplies)
            self.assertIs(alike_days(day_line), same)
            self.judged_own(day_line, same)
            told.append(same)
        self.assertTrue(told.count(True) > 15 and told.count(False) > 5)

    def judged_own(self, day_line, same):
        found = later_matters(day_line)
        self.assertEqual(found is None, same)
        if found is not None:
            self.assertTrue(is_right_later(day_line, found))
            self.assertIs(check_later(day_line, found), True)
            self.assertIs(check_later(day_line, (found[0], found[2], found[1])), True)

    def test_larger_lines(self):
        for day_line in [*drawn_day_lines(1211, 40, 5, "abcd", 3), *drawn_day_lines(1212, 10, 8, "abcd", BIG, 6, 6)]:
            line = unrolled(day_line)
            same = alike_days(day_line)
            self.assertIs(same, orders.alike(line, line.ordered(day_order(day_line).names())))
            self.judged_own(day_line, same)

    def test_the_last_day_is_never_too_early(self):
        line = Line([Asker("eve", ["a"], 1), Asker("sam", ["a"], 1)])
        for keep, alike in ((0, True), (1, True), (2, False), (3, False)):
            # Bags of day 0 that keep for two days or more come to sam's day and to eve's.
            day_line = DayLine(line, {"a": keep}, {"eve": 2, "sam": 0})
            self.assertIs(alike_days(day_line), alike)
        self.assertIs(alike_days(DayLine(line, {"a": 9}, {"eve": 0, "sam": 2})), True)
        self.assertIs(alike_days(DayLine(line, {"a": 0}, {"eve": 2, "sam": 2})), True)

    def test_bent(self):
        found = later_matters(TWO)
        for value in [*bent(found), *spoiled(found)]:
            kept = repr_of(value)
            self.assertIs(check_later(TWO, value), is_right_later(TWO, value), kept)
            self.assertEqual(repr_of(value), kept)

    def test_supplies_that_differ_elsewhere(self):
        for value, right in (
            (("sam", {("o", 0): 1}, {("o", 0): 1, ("o", 1): 1}), True), (("sam", {("o", 0): 1, ("o", 1): 1}, {("o", 0): 1}), True),
            (("sam", {("o", 0): 1, ("a", 1): 7}, {("o", 0): 1, ("o", 1): 1, ("o", 5): 2}), True),
            (("sam", {("o", 0): 1, ("a", 0): 0}, {("o", 0): 1, ("o", 1): 1}), True),
            (("sam", {("o", 0): 1}, {("o", 0): 2, ("o", 1): 1}), False), (("eve", {("o", 0): 1}, {("o", 0): 1, ("o", 1): 1}), False),
            (("sam", {("o", 0): 0}, {("o", 1): 1}), False), (("sam", {("o", 0): 1, ("a", 0): 1}, {("o", 0): 1, ("o", 1): 1}), False),
            (["sam", {("o", 0): 1}, {("o", 0): 1, ("o", 1): 1}], False), (("zoe", {("o", 0): 1}, {("o", 0): 1, ("o", 1): 1}), False),
        ):
            self.assertIs(check_later(TWO, value), right)
            self.assertIs(is_right_later(TWO, value), right)
        self.assertEqual(deal(Line([]), {}), [])
