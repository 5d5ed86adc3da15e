"""[3]: all sections at their limits, in good time, and what is returned passed again."""

import time
import unittest

from elderlink import claims, costs, days, deals, early, gains, orders, papers, scripts, shares, worth
from elderlink.house import Asker, Line, added, recalled, renamed
from elderlink.live import House, replayed
from tests.samples import BIG, HUGE
from tests.ways import drawn_lines, drawn_stocks, line_of


def wide_day_line():
    line = line_of(["abcd", "ab", "cd", "bc", "abcd", "ad", "c", "abd"], [BIG, 1, 3, BIG - 7, 2, 2, 1, 3])
    return days.DayLine(line, dict.fromkeys("abcd", 6), {name: 6 - at * 6 // 7 for at, name in enumerate(line.names())})


class GoodTime(unittest.TestCase):
    def setUp(self):
        self.start = time.perf_counter()

    def tearDown(self):
        self.assertLess(time.perf_counter() - self.start, 60)

    def lines(self):
        for most in (BIG, HUGE):
            yield from drawn_lines(2001, 2, 8, "abcdef", most)
            yield line_of(["abcdef"] * 8, [most - at for at in range(8)])
            yield line_of(["ab", "bc", "cd", "de", "ef", "fa", "ac", "bd"], [most + at for at in range(8)])

    def test_shares(self):
        for line in self.lines():
            most = line.askers()[0].most
            one = shares.Ranks([line.askers()])
            other = shares.Ranks([line.askers()[:3], line.askers()[5:], line.askers()[3:5]])
            for ranks in (one, other):
                for stock in drawn_stocks(2002, 2, "abcdef", most):
                    told = shares.fair(ranks, stock)
                    self.assertIsNone(shares.unfair(ranks, stock, told))
                    self.assertIs(shares.check_even(ranks, stock, shares.even(ranks, stock)), True)
                    self.assertIsNone(shares.evener(ranks, stock, shares.even(ranks, stock)))
                    whole = dict(deals.deal(ranks.line(), stock))
                    pair = shares.evener(ranks, stock, [(name, whole[name]) for name in ranks.line().names()])
                    self.assertTrue(pair is None or whole[pair[0]] > whole[pair[1]] + 1)
                    again = [(name, (count, 1)) for name, count in shares.even(ranks, stock)]
                    fault = shares.unfair(ranks, stock, again)
                    self.assertTrue(fault is None or shares.check_unfair(ranks, stock, again, fault))
            found = shares.parting_ranks(one, other)
            self.assertIs(shares.check_parting_ranks(one, other, found), True)
            more = added(found[0], {"a": 1})
            self.assertIn(shares.check_parting_ranks(one, other, (more, found[1])), (True, False))

    def test_claims(self):
        for line in self.lines():
            book = claims.lesson(line)
            self.assertEqual(claims.count_orders(line, book), orders.count_alike(line))
            self.assertIsNone(claims.stuck(line, book))
            self.assertEqual(claims.nearest(line, book)[0], 0)
            stock = {kind: line.askers()[0].most for kind in "abcdef"}
            for name, (top, bottom) in claims.means(line, stock):
                least, most = [bounds[1:] for bounds in claims.bounds(line, stock) if bounds[0] == name][0]
                self.assertTrue(least * bottom <= top <= most * bottom)
            six = Line(line.askers()[:6])
            self.assertEqual(len(claims.unlike_deals(six, stock)), claims.count_deals(six, stock))

    def test_gains_and_early(self):
        for line in self.lines():
            stock = {kind: line.askers()[0].most for kind in "abcdef"}
            for asker in line.askers():
                number, kinds = gains.least_help(line, stock, asker.name, asker.most)
                self.assertTrue(number == 0 or kinds)
                for kind in "abc":
                    there = gains.help_stock(line, kind, asker.name)
                    if there is not None:
                        self.assertEqual(gains.gainer(line, there, kind), asker.name)
                        self.assertIs(gains.check_way(line, there, kind, gains.gain_way(line, there, kind)), True)
                    for other, count in early.fit_harms(line, asker.name, kind):
                        self.assertTrue(0 < count <= asker.most and early.fit_stock(line, asker.name, kind, other))
            found = early.early_matters(line)
            self.assertTrue(found is None or early.check_early(line, found))
            if found is not None:
                name, first, later = found
                self.assertIs(early.check_early(line, (name, added(first, {"z": 1}), later)), True)

    def test_worth(self):
        for line in self.lines():
            stock = {kind: line.askers()[0].most - at for at, kind in enumerate("abcdef")}
            pairs = [(asker.name, kind) for asker in line.askers() for kind in asker.fits]
            for step in (7, 1001):
                worths = {pair: (at * at * step * 7919) % (2 * 10 ** 9 - 1) - 10 ** 9 + 1 for at, pair in enumerate(pairs)}
                self.assertIs(worth.check_prices(line, stock, worths, worth.greatest_prices(line, stock, worths)), True)
                self.assertIs(worth.check_prices(line, stock, worths, worth.least_prices(line, stock, worths)), True)
                self.assertGreaterEqual(worth.rank_costs(line, stock, worths), 0)

    def test_days(self):
        day_line = wide_day_line()
        every = days.cells(day_line)
        for step in (1, 10 ** 29):
            supplies = {cell: at % 5 * step for at, cell in enumerate(every)}
            self.assertLessEqual(days.foresight(day_line, supplies), sum(count for _, count in days.handed_deal(day_line, supplies)))
            self.assertTrue(all(least <= most for _, least, most in days.so_far(day_line, supplies, 3)))
        name, some, more = days.later_matters(day_line)
        self.assertIs(days.check_later(day_line, (name, some, more)), True)
        self.assertIs(days.check_later(day_line, (name, {**some, ("a", 9): 1}, more)), True)

    def test_houses_of_unrolled_lines(self):
        """[3]: the line of unrolled may be passed to the functions of section 15, too."""
        wide = days.unrolled(wide_day_line())
        turned = dict(zip(wide.kinds(), wide.kinds()[9:] + wide.kinds()[:9]))
        for line in (wide, renamed(wide, turned), wide.without("m"), recalled(wide, {"m": "c", "c": "m"})):
            house = House(line, {kind: at % 3 for at, kind in enumerate(line.kinds())})
            before = dict(house.deal())
            self.assertEqual(house.bring("aa", 2), [(name, before[name], count) for name, count in sorted(house.deal()) if count != before[name]])
            house.join(Asker("new", line.kinds(), 5), 0)
            self.assertEqual(dict(house.give())["new"], 5)
            house.move(line.names()[-1], 0)
            other = replayed(line, {kind: at % 3 for at, kind in enumerate(line.kinds())}, house.log())
            self.assertEqual((other.stock(), other.line(), other.given()), (house.stock(), house.line(), house.given()))
            house.undo()
            house.undo()
            self.assertIs(papers.check_papers(house.line(), house.stock(), papers.papers(house.line(), house.stock())), True)
            self.assertEqual([name for name, _ in costs.whom(house.line(), "new")], orders.touched(house.line(), "new"))

    def test_houses_and_scripts(self):
        for line in self.lines():
            house = House(line, {})
            for at in range(100):
                called = [lambda: house.bring("abcdef"[at % 6], BIG), house.give, lambda: house.undo() if at % 3 else house.redo()]
                if at > 3:
                    called[at % 2]()
                else:
                    called[0]()
            self.assertEqual(len(replayed(line, {}, house.log()).log()), len(house.log()))
            script = [("try", [("try", [("try", [("try", [("give",), ("deal",)])])])]), *[("bring", "a", BIG)] * 10, *[("short", "m")] * 14]
            self.assertEqual(len(scripts.play(House(line, {}), script)), 25)
            self.assertEqual(scripts.read_script(scripts.script_text(script)), script)
            eight = [("lose", "a", 1), ("lose", "b", 1), ("lose", "c", 1), ("move", "m", 7), ("bring", "a", BIG), ("undo",),
                     ("leave", "c"), ("undo",)]
            self.assertIs(scripts.same_end(line, eight, scripts.trimmed(line, eight)), True)
