"""[2]: equal calls of the later sections tell the same anew, and nothing that is passed or returned is a door."""

import unittest

from elderlink import claims, days, early, gains, live, scripts, shares, worth
from elderlink.house import Asker, Line
from tests.samples import ann, bob, cat, repr_of, trio

STOCKS = [{"a": 2, "b": 1}, {"b": 1, "a": 2}, {"z": 0, "a": 2, "c": 0, "b": 1}]
SHARES = [("ann", (1, 1)), ("bob", (1, 2)), ("cat", (0, 1))]


def ranks():
    return shares.Ranks([[bob(), ann()], [cat()]])


def turned():
    return shares.Ranks([[cat()], [ann(), bob()]])


def day_line():
    return days.DayLine(trio(), {"c": 1, "a": 1, "ab": 1, "b": 2}, {"bob": 0, "ann": 1, "cat": 2})


def book():
    return [({"a": 2, "b": 1}, [("ann", 1), ("bob", 1), ("cat", 1)])]


def with_stock(stock):
    """What is told of a stock."""
    supplies = {(kind, 0): count for kind, count in stock.items() if kind != "z"}
    told = [(stock, [("ann", 2), ("bob", 0), ("cat", 1)])]
    return [
        gains.gainer(trio(), stock, "a"), gains.loser(trio(), stock, "b"), gains.gain_way(trio(), stock, "a"),
        gains.check_way(trio(), stock, "a", gains.gain_way(trio(), STOCKS[0], "a")), gains.between(trio(), {}, stock),
        gains.between(trio(), stock, {"a": 2, "b": 3}), gains.least_help(trio(), stock, "cat", 3),
        gains.spare(trio(), stock), gains.payer(trio(), stock, "ann"), shares.class_sums(ranks(), stock),
        shares.fair(ranks(), stock), shares.blocks(ranks(), stock), shares.unfair(ranks(), stock, SHARES),
        shares.even(ranks(), stock), shares.even_rows(ranks(), stock), shares.span(ranks(), stock),
        shares.evener(ranks(), stock, [("ann", 2), ("bob", 0), ("cat", 1)]),
        shares.check_parting_ranks(ranks(), turned(), (stock, "cat")), shares.harmed_shares(ranks(), turned(), stock),
        claims.order_for(trio(), told), claims.must(trio(), told), claims.nearest(trio(), told),
        claims.unlike_deals(trio(), stock), claims.bounds(trio(), stock), claims.means(trio(), stock),
        days.foreseen(day_line(), supplies), days.by_days(day_line(), supplies), days.so_far(day_line(), supplies, 0),
        days.handed(day_line(), supplies), days.unused(day_line(), supplies), days.foresight(day_line(), supplies),
        *[function(trio(), stock, worths()) for function in (
            worth.best_worth, worth.best_spread, worth.prices, worth.least_prices, worth.greatest_prices, worth.best_of_deal,
            worth.spread_of_deal, worth.rank_costs)],
        worth.check_prices(trio(), stock, worths(), worth.prices(trio(), STOCKS[0], worths())),
        early.in_steps(trio(), stock, {"ab": 1}), early.in_steps(trio(), {"ab": 1}, stock), early.winner(trio(), stock, "ann"),
        early.check_early(trio(), ("bob", stock, {"ab": 1})), *of_houses(trio(), stock),
    ]


def worths():
    return {("ann", "a"): 3, ("ann", "ab"): -1, ("bob", "a"): 4, ("cat", "b"): 0, ("cat", "ab"): 7, ("cat", "c"): 2}


def script():
    return [("lose", "a", 1), ("order", ["cat", "bob", "ann"]), ("try", [("order", ["ann", "bob", "cat"]), ("deal",)]), ("short", "bob")]


def of_houses(line, stock):
    """What is told of a house of a line and a stock."""
    house = live.House(line, stock)
    return [house.stock(), house.deal(), scripts.play(house, script()), house.log(), house.bring("c", 2), house.give(),
            house.given(), live.replayed(line, stock, house.log()).deal(), house.attempt(lambda same: same.give())]


def without_stock():
    return [
        gains.can_help(trio(), "a"), gains.help_stock(trio(), "ab", "bob"), gains.waits_for(trio(), "bob"),
        ranks().classes(), ranks().line().names(), [each.classes() for each in [shares.parted(ranks())]],
        shares.parting_ranks(ranks(), turned()), claims.stuck(trio(), book()), claims.lesson(trio()),
        claims.first_wronged(trio(), book()), day_line().keeps(), day_line().days(), days.cells(day_line()),
        days.unrolled(day_line()).names(), days.later_matters(day_line()), worth.by_asker(trio(), [3, 2, 1]),
        early.early_pairs(trio()), early.early_matters(trio()), early.fit_harms(trio(), "ann", "b"),
        early.fit_stock(trio(), "ann", "b", "cat"), early.gathered(trio()).names(),
        scripts.read_script(scripts.script_text(script())), scripts.parting_stock(trio(), script(), []),
        scripts.trimmed(trio(), script()), scripts.script_text(script()),
    ]


def emptied(value):
    """Clear all lists and dictionaries in a value."""
    if isinstance(value, (list, tuple)):
        for item in value:
            emptied(item)
    if isinstance(value, dict):
        for item in value.values():
            emptied(item)
    if isinstance(value, (list, dict)):
        value.clear()


class Again(unittest.TestCase):
    def test_stocks_that_tell_the_same_mean_the_same(self):
        first = with_stock(STOCKS[0])
        for stock in STOCKS[1:]:
            for one, other in zip(first, with_stock(stock)):
                self.assertEqual(repr_of(one), repr_of(other))

    def test_what_is_returned_is_no_door(self):
        for call in (without_stock, lambda: with_stock(STOCKS[0])):
            kept = repr_of(call())
            emptied(call())
            self.assertEqual(repr_of(call()), kept)
        self.assertEqual(repr_of(STOCKS[0]), repr_of({"a": 2, "b": 1}))

    def test_objects_are_no_doors(self):
        one, other, third = ranks(), turned(), day_line()
        line, stock, told = trio(), {"a": 2, "b": 1}, book()
        kept = repr_of([one, other, third, line, stock, told])
        calls = [
            lambda: one.classes(), lambda: third.keeps(), lambda: third.days(), lambda: shares.parting_ranks(one, other),
            lambda: shares.blocks(one, stock), lambda: shares.fair(one, stock), lambda: shares.unfair(one, stock, SHARES),
            lambda: days.later_matters(third), lambda: days.handed(third, {("a", 0): 2}), lambda: days.cells(third),
            lambda: gains.gain_way(line, stock, "a"), lambda: gains.help_stock(line, "a", "ann"), lambda: claims.lesson(line),
            lambda: claims.stuck(line, told), lambda: claims.nearest(line, told), lambda: claims.unlike_deals(line, stock),
        ]
        for call in calls:
            first = call()
            there = repr_of(first)
            self.assertIsNot(call(), first) if isinstance(first, (list, dict)) else None
            emptied(first)
            self.assertEqual(repr_of(call()), there)
        self.assertEqual(repr_of([one, other, third, line, stock, told]), kept)

    def test_what_was_passed_may_change(self):
        keeps, own = {"a": 1}, {"bob": 0}
        third = days.DayLine(Line([bob()]), keeps, own)
        first = [[Asker("p", ["a"], 1)], [Asker("q", ["a"], 1)]]
        one = shares.Ranks(first)
        keeps["b"], own["ann"] = 1, 2
        first[0].append(first[1].pop())
        self.assertEqual((third.keeps(), third.days(), len(one), one.line().names()), ({"a": 1}, {"bob": 0}, 2, ["p", "q"]))
