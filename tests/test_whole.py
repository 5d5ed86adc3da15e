"""One line and one stock through all sections, where two of them tell the same."""

import itertools
import unittest

from elderlink import claims, costs, days, deals, early, gains, orders, papers, scripts, shares, texts, worth
from elderlink.house import Asker, added, folded, recalled, renamed, taken, total, wanted
from elderlink.live import House, replayed
from tests.ways import drawn_lines, drawn_stocks

KINDS = {"a": "zz", "zz": "c", "c": "a"}


def cases():
    for at, line in enumerate([*drawn_lines(1901, 25, 4, "abcd", 3), *drawn_lines(1902, 10, 6, "abcdef", 4)]):
        for stock in drawn_stocks(at, 2, "abcd", 4):
            yield line, {kind: count for kind, count in stock.items() if count}


def ones(line):
    return shares.Ranks([[asker] for asker in line.askers()])


def one_day(line):
    return days.DayLine(line, dict.fromkeys(line.kinds(), 0), dict.fromkeys(line.names(), 0))


def counts_of(line, entries):
    return [(name, sum(entry[2] for entry in entries if entry[0] == name)) for name in line.names()]


class ThroughAllSections(unittest.TestCase):
    def test_the_deal(self):
        for line, stock in cases():
            counts = deals.deal(line, stock)
            told, spread, _ = papers.papers(line, stock)
            supplies = {(kind, 0): count for kind, count in stock.items() if kind in line.kinds()}
            numbers = [len(line) - place for place in range(len(line))]
            house = House(line, stock)
            small, less = folded(line, stock)
            for other in (told, counts_of(line, spread), deals.deal(small, less), deals.deal(line, gains_nothing(line, stock)),
                          shares.even(ones(line), stock), [(name, top) for name, (top, _) in shares.fair(ones(line), stock)],
                          [(name, least) for name, least, _ in shares.span(ones(line), stock)],
                          [(name, least) for name, least, _ in gains.between(line, stock, stock)],
                          days.foreseen(one_day(line), supplies), days.by_days(one_day(line), supplies),
                          days.handed_deal(one_day(line), supplies), counts_of(line, worth.spread_of_deal(line, stock, worth.by_asker(line, numbers))),
                          counts_of(line, worth.best_spread(line, stock, worth.by_asker(line, numbers))),
                          early.in_steps(line, stock, {}), early.in_steps(line, {}, stock), house.deal(),
                          scripts.play(house, [("deal",)])[0][1], texts.read_deal(texts.deal_text(counts)), house.give()):
                self.assertEqual(other, counts)
            self.assertEqual(house.given(), sorted(pair for pair in counts if pair[1]))
            self.assertEqual(sum(count for _, count in counts), deals.together(line, line.names(), stock))
            self.assertEqual((claims.first_wronged(line, [(stock, counts)]), claims.nearest(line, [(stock, counts)])[0]), (None, 0))
            self.assertIs(claims.check_stuck(line, [(stock, counts)], []), False)
            self.assertTrue([count for _, count in counts] in claims.unlike_deals(line, stock))

    def test_what_is_left(self):
        for line, stock in cases():
            counts = deals.deal(line, stock)
            rest = deals.left(line, stock, counts)
            house = House(line, stock)
            house.give()
            self.assertEqual(house.stock(), rest)
            self.assertEqual(total(rest), total(stock) - sum(count for _, count in counts))
            self.assertEqual(total(taken(stock, rest)), total(stock) - total(rest))
            self.assertEqual(deals.left(recalled(line, {"m": "c", "c": "m"}), stock,
                                        [({"m": "c", "c": "m"}.get(name, name), count) for name, count in counts]), rest)
            # An exchange of kinds by which none comes ahead of another one that it stood behind.
            later = {"d": "e", "e": "d"}
            if "e" not in line.kinds():
                self.assertEqual(deals.left(renamed(line, later), renamed(stock, later), counts), renamed(rest, later))
            for kind, number in gains.spare(line, stock):
                self.assertLessEqual(rest.get(kind, 0), number)
                self.assertEqual(deals.deal(line, taken(stock, {kind: number})), counts)

    def test_shortages_and_gains(self):
        for line, stock in cases():
            counts = dict(deals.deal(line, stock))
            for asker in line.askers():
                lot = papers.shortage(line, stock, asker.name)
                self.assertEqual(lot is None, counts[asker.name] == asker.most)
                self.assertEqual(scripts.play(House(line, stock), [("short", asker.name)]), [("short", lot)])
                self.assertEqual(gains.least_help(line, stock, asker.name, asker.most)[0] == 0, lot is None)
            for kind in "abcd":
                more = added(stock, {kind: 1})
                gainer = gains.gainer(line, stock, kind)
                self.assertEqual(gains.loser(line, more, kind), gainer)
                self.assertEqual(papers.harmed(line, line, stock), [])
                rows = House(line, stock).bring(kind, 1)
                self.assertEqual([name for name, _, _ in rows], [gainer] if gainer else [])
                if gainer is not None:
                    self.assertTrue(gainer in gains.can_help(line, kind) and counts[gainer] < line.asker(gainer).most)
                    way = gains.gain_way(line, stock, kind)[1]
                    self.assertTrue(all(name in orders.group(line, gainer) for _, name in way))

    def test_payers_and_winners(self):
        for line, stock in cases():
            for asker in line.askers():
                keener = line.changed(Asker(asker.name, asker.fits, asker.most + 1))
                payer = gains.payer(line, stock, asker.name)
                self.assertEqual(early.winner(keener, stock, asker.name), payer)
                for other in (payer, early.winner(line, stock, asker.name)):
                    self.assertTrue(other is None or other in orders.touched(line, asker.name))
                if payer is not None:
                    self.assertTrue(payer in [name for name, _ in costs.whom(line, asker.name)])
                    self.assertEqual(papers.harmed(line, keener, stock), [payer])
                self.assertEqual(papers.harmed(line, line.without(asker.name), stock), [])
                rows = House(line, stock).leave(asker.name)
                self.assertTrue(all(after > before or name == asker.name for name, before, after in rows))

    def test_costs_and_fits(self):
        for line, _ in itertools.islice(cases(), 0, None, 4):
            for name in line.names():
                touched = orders.touched(line, name)
                self.assertEqual([other for other, _ in costs.whom(line, name)], touched)
                asker = line.asker(name)
                self.assertEqual(costs.newcomer(line.without(name), asker, line.place(name)), costs.whom(line, name))
                # A kind that nobody else has costs nobody anything; a fit that is new costs at most what all of it would.
                self.assertEqual(early.fit_harms(line, name, "zzz"), [])
                for other, count in early.fit_harms(line, name, "a"):
                    stock = early.fit_stock(line, name, "a", other)
                    wider = line.changed(Asker(name, [*asker.fits, "a"], asker.most))
                    self.assertTrue(other in papers.harmed(line, wider, stock))
                    self.assertLessEqual(count, costs.greatest_cost(wider, [name], [other]))
                    self.assertLessEqual(count, asker.most)

    def test_orders_that_are_alike(self):
        alikes = 0
        for line, stock in itertools.islice(cases(), 0, 50, 2):
            lesson = claims.lesson(line)
            self.assertEqual(claims.count_orders(line, lesson), orders.count_alike(line))
            fixed = claims.must(line, lesson)
            for names in itertools.permutations(line.names()):
                other = line.ordered(list(names))
                same = orders.alike(line, other)
                alikes += same
                self.assertIs(shares.alike_ranks(ones(line), ones(other)), same)
                self.assertIs(scripts.same_end(line, [("order", list(names))], []), same)
                self.assertEqual(orders.normal(other) == orders.normal(line), same)
                self.assertEqual(orders.exchanges(line, other) is not None, same)
                self.assertEqual(all(names.index(one) < names.index(two) for one, two in fixed), same)
                turned = [(told, [(name, dict(counts)[name]) for name in names]) for told, counts in lesson]
                self.assertEqual(claims.first_wronged(other, turned) is None, same)
                if same:
                    self.assertEqual(sorted(deals.deal(other, stock)), sorted(deals.deal(line, stock)))
                else:
                    told, name = shares.parting_ranks(ones(line), ones(other))
                    self.assertIs(orders.check_parting(line, other, (told, name)), True)
                    self.assertIs(shares.check_parting_ranks(ones(line), ones(other), orders.parting(line, other)), True)
        self.assertGreater(alikes, 30)

    def test_exchanges_in_a_house(self):
        for line, stock in itertools.islice(cases(), 0, 50, 5):
            for names in itertools.permutations(line.names()):
                found = orders.exchanges(line, line.ordered(list(names)))
                house = House(line, stock)
                for at in found or []:
                    # Exchanged with the one right behind, without anybody noticing.
                    self.assertEqual(house.move(house.line().names()[at], at + 1), [])
                self.assertEqual(house.line().names(), list(names) if found is not None else line.names())

    def test_all_orders(self):
        for line, stock in itertools.islice(cases(), 0, 50, 3):
            ranks = shares.Ranks([line.askers()])
            bounds = {name: (least, most) for name, least, most in claims.bounds(line, stock)}
            self.assertEqual(bounds, {name: (least, most) for name, least, most in shares.span(ranks, stock)})
            self.assertEqual(shares.class_sums(ranks, stock), [deals.together(line, line.names(), stock)])
            for name, (top, bottom) in shares.fair(ranks, stock) + claims.means(line, stock):
                self.assertTrue(bounds[name][0] * bottom <= top <= bounds[name][1] * bottom)
            for name, (least, most) in bounds.items():
                self.assertEqual(deals.due(line, name, [], stock), most)
                rows = dict(deals.deal(line.moved(name, len(line) - 1), stock))
                self.assertEqual(rows[name], least)

    def test_days_and_lines(self):
        for line, stock in itertools.islice(cases(), 0, None, 3):
            day_line = days.DayLine(line, dict.fromkeys(line.kinds(), 9), {name: at % 3 for at, name in enumerate(line.names())})
            supplies = {(kind, 0): count for kind, count in stock.items() if kind in line.kinds()}
            # All comes on the first day and keeps, so the days matter only by their order.
            self.assertEqual(days.foreseen(day_line, supplies), deals.deal(line, stock))
            turned = dict(deals.deal(days.day_order(day_line), stock))
            self.assertEqual(days.by_days(day_line, supplies), [(name, turned[name]) for name in line.names()])
            house = House(line, stock)
            before = sum(count for _, count in days.handed_deal(day_line, supplies))
            self.assertEqual(days.foresight(day_line, supplies), sum(count for _, count in house.deal()) - before)
            wide = days.unrolled(day_line)
            self.assertEqual(days.alike_days(day_line), orders.alike(wide, wide.ordered(days.day_order(day_line).names())))

    def test_called_otherwise(self):
        names = {"m": "c", "c": "x", "x": "m"}
        for line, stock in cases():
            other, bags = renamed(line, KINDS), renamed(stock, KINDS)
            self.assertEqual(deals.deal(other, bags), deals.deal(line, stock))
            self.assertEqual(orders.forest(other), orders.forest(line))
            self.assertEqual(early.early_pairs(other), early.early_pairs(line))
            told = recalled(line, names)
            self.assertEqual(deals.deal(told, stock), [(names.get(name, name), count) for name, count in deals.deal(line, stock)])
            self.assertEqual(orders.forest(told), [(names.get(name, name), names.get(above, above)) for name, above in orders.forest(line)])
            self.assertEqual(claims.means(told, stock), [(names.get(name, name), mean) for name, mean in claims.means(line, stock)])
            for kind in "abcd":
                self.assertEqual(gains.gainer(other, bags, KINDS.get(kind, kind)), gains.gainer(line, stock, kind))
                gainer = gains.gainer(line, stock, kind)
                self.assertEqual(gains.gainer(told, stock, kind), names.get(gainer, gainer))

    def test_a_house_and_its_log(self):
        for line, stock in itertools.islice(cases(), 0, None, 4):
            house = House(line, stock)
            script = [("bring", "a", 2), ("give",), ("bring", "b", 3), ("order", sorted(house.line().names())), ("give",), ("undo",)]
            said = scripts.play(house, script)
            self.assertEqual(len(said), len(script))
            other = replayed(line, stock, house.log())
            self.assertEqual((other.line(), other.stock(), other.given()), (house.line(), house.stock(), house.given()))
            again = House(line, stock)
            scripts.play(again, scripts.read_script(scripts.script_text(house.log())))
            self.assertEqual((again.line(), again.stock(), again.given(), again.log()), (other.line(), other.stock(), other.given(), other.log()))
            self.assertEqual(early.in_steps(line, added(stock, {"a": 2}), {"b": 3}), self.in_two(line, stock))
            self.assertEqual(wanted(line, line.names()) - wanted(house.line(), house.line().names()),
                             sum(count for _, count in house.given()))

    def in_two(self, line, stock):
        house = House(line, added(stock, {"a": 2}))
        house.give()
        house.bring("b", 3)
        house.give()
        return [(name, dict(house.given()).get(name, 0)) for name in line.names()]


def gains_nothing(line, stock):
    """A stock with more bags of which nobody gains anything."""
    return added(stock, {kind: 3 for kind in "uvw" if kind not in line.kinds()})
