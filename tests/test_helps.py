"""[92] to [96]: which kinds help whom, from how few bags on, and what can be spared, against all small stocks."""

import itertools
import unittest

from elderlink.errors import InvalidCount, InvalidStock, UnknownName
from elderlink.gains import between, can_help, gainer, help_stock, least_help, least_stock, same_kinds, spare, waits_for
from elderlink.house import Asker, Line, added, total
from elderlink.orders import group
from tests.samples import BIG, ElderCase, HUGE, is_right_count, is_right_stock, strange_but, trio
from tests.ways import all_lines, all_stocks, deal_of, drawn_lines, drawn_stocks, line_of, patterned_lines


def two_kinds():
    yield from all_lines(1, "ab", (1, 2))
    yield from all_lines(2, "ab", (1, 2))
    yield from itertools.islice(all_lines(3, "ab", (1, 2)), 0, None, 5)


def three_kinds():
    yield from itertools.islice(patterned_lines(3, "abc"), 0, None, 6)
    yield from drawn_lines(921, 12, 5, "abcd", 3)


def all_deals(line, kinds, most):
    """The deals of all stocks of so many bags of a kind."""
    return {tuple(stock.values()): dict(deal_of(line, stock)) for stock in all_stocks(kinds, most)}


def one_more(counts, at):
    return (*counts[:at], counts[at] + 1, *counts[at + 1:])


class KindsThatHelp(ElderCase):
    def test_against_all_small_stocks(self):
        for line in two_kinds():
            deals = all_deals(line, "abz", 5)
            for at, kind in enumerate("abz"):
                names = [
                    name for name in line.names()
                    if any(counts[at] < 5 and deals[one_more(counts, at)][name] > deals[counts][name] for counts in deals)
                ]
                self.assertEqual(can_help(line, kind), names)
                for name in line.names():
                    self.helped(line, kind, name, name in names)

    def helped(self, line, kind, name, there):
        stock = help_stock(line, kind, name)
        self.assertEqual(stock is not None, there)
        if there:
            self.assertTrue(is_right_stock(stock) and 0 not in stock.values())
            before, after = deal_of(line, stock), deal_of(line, {**stock, kind: stock.get(kind, 0) + 1})
            self.assertEqual([one[0] for one, other in zip(before, after) if one != other], [name])
            self.assertEqual((gainer(line, stock, kind), gainer(line, added(stock, {kind: 1}), "z")), (name, None))

    def test_more_kinds(self):
        for line in [Line([]), *three_kinds(), *drawn_lines(922, 6, 8, "abcdef", 4)]:
            for kind in "abcz":
                told = can_help(line, kind)
                for name in line.names():
                    fits = any(kind in line.asker(each).fits for each in group(line, name))
                    self.assertEqual(name in told, fits)
                    self.helped(line, kind, name, fits)
                self.assertEqual(told, [name for name in line.names() if name in told])

    def test_great_mosts(self):
        for great in (BIG, HUGE):
            line = Line([Asker("m", ["a", "b"], great), Asker("c", ["c", "b"], great), Asker("x", ["c"], great)])
            self.assertEqual([can_help(line, kind) for kind in "abcz"], [["m", "c", "x"], ["m", "c", "x"], ["c", "x"], []])
            for name in line.names():
                self.helped(line, "a", name, True)


class Between(ElderCase):
    def test_against_all_stocks_between(self):
        for line in [*itertools.islice(two_kinds(), 0, None, 5), *itertools.islice(three_kinds(), 0, None, 7)]:
            deals = all_deals(line, "abcz", 2)
            for low in itertools.islice(all_stocks("abcz", 2), 0, None, 4):
                for high in itertools.islice(all_stocks("abcz", 2), 0, None, 7):
                    if any(low[kind] > high[kind] for kind in "abcz"):
                        self.refused(InvalidStock, high, between, line, low, high)
                        continue
                    there = [deals[counts] for counts in deals
                             if all(low[kind] <= count <= high[kind] for kind, count in zip("abcz", counts))]
                    found = between(line, low, high)
                    self.assertEqual([name for name, _, _ in found], line.names())
                    for name, least, most in found:
                        self.assertEqual({counts[name] for counts in there}, set(range(least, most + 1)))

    def test_a_high_with_fewer_bags(self):
        line = trio()
        for low, high in (({"a": 1}, {}), ({"a": 1}, {"b": 9}), ({"z": 1}, {"a": 5}), ({"a": 2, "b": 1}, {"a": 2, "b": 0}),
                          ({"a": BIG}, {"a": BIG - 1})):
            self.refused(InvalidStock, high, between, line, low, high)
        self.assertEqual(between(line, {"z": 0}, {}), [("ann", 0, 0), ("bob", 0, 0), ("cat", 0, 0)])
        self.assertEqual(between(line, {"a": 1}, {"a": BIG}), [("ann", 1, 3), ("bob", 0, 2), ("cat", 0, 0)])


class LeastHelp(ElderCase):
    def test_least_stock_against_all_small_stocks(self):
        for line in two_kinds():
            deals = all_deals(line, "ab", 6)
            for name in line.names():
                for wish in range(line.asker(name).most + 1):
                    least = min(sum(counts) for counts in deals if deals[counts][name] >= wish)
                    self.assertEqual(least_stock(line, name, wish), least)

    def test_least_help_against_all_small_stocks(self):
        for line in itertools.islice(two_kinds(), 0, None, 2):
            deals = all_deals(line, "ab", 9)
            for stock in all_stocks("ab", 3):
                for name in line.names():
                    for wish in range(line.asker(name).most + 1):
                        self.judged(line, stock, name, wish, deals)

    def judged(self, line, stock, name, wish, deals):
        here = (stock["a"], stock["b"])
        more = [(counts[0] - here[0], counts[1] - here[1]) for counts in deals if deals[counts][name] >= wish]
        number = min(sum(pair) for pair in more if min(pair) >= 0)
        alone = [kind for kind, pair in (("a", (number, 0)), ("b", (0, number))) if kind in line.kinds() and pair in more]
        self.assertEqual(least_help(line, stock, name, wish), (number, alone if number else []))
        if number:
            self.assertTrue(any(kind in line.asker(name).fits for kind in alone))

    def test_three_kinds(self):
        for line in itertools.islice(three_kinds(), 0, None, 3):
            for stock in drawn_stocks(923, 3, "abcz", 2):
                for name in line.names():
                    wish = line.asker(name).most
                    number, kinds = least_help(line, stock, name, wish)
                    got = dict(deal_of(line, stock))[name]
                    self.assertEqual(number == 0, got >= wish)
                    for kind in line.kinds():
                        enough = dict(deal_of(line, {**stock, kind: stock.get(kind, 0) + number}))[name] >= wish
                        self.assertEqual(kind in kinds, number > 0 and enough)
                    fewer = [pick for pick in itertools.combinations_with_replacement(line.kinds(), max(number - 1, 0))]
                    for pick in fewer if 0 < number < 4 else []:
                        less = {kind: stock.get(kind, 0) + pick.count(kind) for kind in {*stock, *line.kinds()}}
                        self.assertLess(dict(deal_of(line, less))[name], wish)

    def test_wishes(self):
        line = trio()
        for name, most in (("ann", 3), ("bob", 2), ("cat", 4)):
            self.assertEqual((least_stock(line, name, 0), least_help(line, {}, name, 0)), (0, (0, [])))
            for wish in strange_but(lambda value: is_right_count(value) and value <= most) + [most + 1]:
                self.refused(InvalidCount, wish, least_stock, line, name, wish)
                self.refused(InvalidCount, wish, least_help, line, {"a": 1}, name, wish)
            self.refused(UnknownName, "dan", least_stock, line, "dan", most + 1)
        self.assertEqual([least_stock(line, "bob", 2), least_help(line, {"a": 1}, "bob", 2), least_stock(line, "cat", 4)],
                         [5, (4, ["a"]), 4])

    def test_without_bags_the_number_is_the_wish_and_the_elders(self):
        for line in drawn_lines(924, 25, 7, "abcdef", BIG):
            for name in line.names()[::2]:
                elders = line.askers()[:line.place(name)]
                least = min(sum(elder.most for elder in elders if kind in elder.fits) for kind in line.asker(name).fits)
                wish = line.asker(name).most
                self.assertEqual(least_stock(line, name, wish), least + wish)
                self.assertEqual(least_help(line, {"zz": 4}, name, wish)[0], least + wish)


class Spare(unittest.TestCase):
    def test_against_all_lesser_stocks(self):
        for line in [*itertools.islice(two_kinds(), 0, None, 2), *itertools.islice(three_kinds(), 0, None, 3)]:
            for stock in drawn_stocks(925, 6, "abcz", 4):
                counts = deal_of(line, stock)
                found = []
                for kind in sorted(stock):
                    free = [number for number in range(stock[kind] + 1)
                            if deal_of(line, {**stock, kind: stock[kind] - number}) == counts]
                    if stock[kind]:
                        found.append((kind, max(free)))
                self.assertEqual(spare(line, stock), found)

    def test_great_counts(self):
        for great in (BIG, HUGE):
            line = line_of(["ab", "b"], [great, great])
            self.assertEqual(spare(line, {"b": great + 5, "a": 7, "z": great, "c": 0}), [("a", 0), ("b", 0), ("z", great)])
            self.assertEqual(spare(line, {"b": 2 * great, "a": 7}), [("a", 7), ("b", 7)])
        self.assertEqual(spare(Line([]), {"b": 2, "a": 0}), [("b", 2)])


class WaitsAndSameKinds(unittest.TestCase):
    def test_waits_for_against_all_small_stocks(self):
        for line in two_kinds():
            deals = all_deals(line, "ab", 6).values()
            for asker in line.askers():
                elders = line.askers()[:line.place(asker.name)]
                found = [elder.name for elder in elders
                         if all(counts[elder.name] == elder.most for counts in deals if counts[asker.name] > 0)]
                self.assertEqual(waits_for(line, asker.name), found)

    def test_same_kinds_against_all_small_stocks(self):
        for line in two_kinds():
            deals = all_deals(line, "ab", 6)
            stocks = [(a, b) for a, b in deals if a > 0 and b < 6]
            self.assertIs(same_kinds(line, "a", "b"), all(deals[a, b] == deals[a - 1, b + 1] for a, b in stocks))
            self.assertIs(same_kinds(line, "a", "z"), all(deals[a, b] == deals[a - 1, b] for a, b in stocks))
            for one, other in (("a", "b"), ("a", "z"), ("b", "y")):
                self.assertIs(same_kinds(line, other, one), same_kinds(line, one, other))
            self.assertEqual([same_kinds(line, "y", "z"), same_kinds(line, "b", "b")], [True, True])

    def test_examples_of_both(self):
        line = line_of(["ab", "abc", "b", "ab"], [1, 1, 1, 1])
        self.assertEqual([waits_for(line, name) for name in line.names()], [[], [], ["m", "c"], ["m", "c"]])
        self.assertEqual([same_kinds(line, "a", "a"), same_kinds(line, "a", "c"), same_kinds(line, "z", "q")], [True, False, True])
        self.assertEqual([total({"a": least_stock(line, name, 1)}) for name in line.names()], [1, 1, 3, 3])
