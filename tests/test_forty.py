"""[3]: lines of forty askers and sixty kinds in section 7, and great counts, in good time."""

import math
import time
import unittest

from elderlink import costs, deals, papers
from elderlink.house import Asker, Line
from elderlink.orders import alike, chain, count_alike, exchanges, forest, group, linked, normal, parent, positions, touched
from tests.samples import BIG
from tests.ways import deal_of, group_of, parent_of

NAMES = [first + second for first in "abcdefgh" for second in "vwxyz"]
KINDS = [first + second for first in "abcdefghijkl" for second in "mnopq"]


def forty(step, many):
    """Forty askers, in an order of their own, with so many of the sixty kinds each."""
    askers = []
    for at in range(40):
        place = at * step % 40
        fits = {KINDS[(place * place * 3 + 7 * more * (place + 1) + more) % 60] for more in range(many)}
        askers.append(Asker(NAMES[place], sorted(fits), BIG - at))
    return Line(askers)


def row_of_forty():
    return Line([Asker(name, [KINDS[at], KINDS[at + 1]], 1) for at, name in enumerate(NAMES)])


LINES = [forty(1, 1), forty(3, 2), forty(7, 1), forty(39, 6), forty(11, 3), row_of_forty(),
         Line([Asker(name, ["o"], BIG) for name in NAMES]), Line([Asker(name, [kind], 1) for name, kind in zip(NAMES, KINDS)])]


class GoodTime(unittest.TestCase):
    def setUp(self):
        self.start = time.perf_counter()

    def tearDown(self):
        self.assertLess(time.perf_counter() - self.start, 60)

    def test_groups_and_parents(self):
        for line in LINES:
            parents = dict(forest(line))
            for name in line.names():
                self.assertEqual(parent(line, name), parents[name])
                self.assertTrue(linked(line, name, name))
                self.assertEqual(len(group(line, name)) + len(touched(line, name)) <= 40, True)
            for name in line.names()[::8]:
                self.assertEqual(parents[name], parent_of(line, name))
                self.assertEqual(group(line, name), group_of(line, name))

    def test_chains(self):
        line = row_of_forty()
        self.assertEqual(chain(line, NAMES[-1], NAMES[0]), NAMES)
        for line in LINES:
            for at in range(1, 40, 6):
                name, own = line.names()[at], group(line, line.names()[at])
                for elder in line.names()[:at]:
                    self.assertEqual(chain(line, name, elder) is not None, elder in own)

    def test_normal_lines(self):
        for line in LINES:
            other = normal(line)
            self.assertIs(alike(line, other), True)
            self.assertEqual(normal(other), other)
            self.assertEqual(dict(forest(line)), dict(forest(other)))
            found = exchanges(line, other)
            names = line.names()
            for at in found:
                names[at], names[at + 1] = names[at + 1], names[at]
            self.assertEqual(names, other.names())
            number = math.factorial(40)
            for name in line.names():
                number //= len(group(line, name))
                least, greatest = positions(line, name)
                self.assertTrue(least <= line.place(name) <= greatest)
                self.assertTrue(least <= other.place(name) <= greatest)
            self.assertEqual(count_alike(line), number)
        self.assertEqual(count_alike(LINES[-1]), math.factorial(40))
        self.assertEqual(len(exchanges(LINES[-1], LINES[-1].ordered(NAMES[::-1]))), 780)

    def test_lines_that_do_not_deal_alike(self):
        line = row_of_forty()
        self.assertIs(alike(line, line.moved(NAMES[3], 20)), False)
        self.assertIsNone(exchanges(line, line.ordered(NAMES[::-1])))

    def test_thirty_digits(self):
        fits = ["abc", "bcd", "cde", "def", "efa", "fab", "ace", "bdf"]
        line = Line([Asker(name, list(own), BIG - 3 ** at) for at, (name, own) in enumerate(zip("hgfedcba", fits))])
        stock = {kind: BIG - 7 ** at for at, kind in enumerate("abcdef")}
        self.assertEqual(deals.deal(line, stock), deal_of(line, stock))
        found = papers.papers(line, stock)
        self.assertIs(papers.check_papers(line, stock, found), True)
        rest = deals.left(line, stock, found[0])
        self.assertEqual(sum(rest.values()), sum(stock.values()) - sum(count for _, count in found[0]))
        for name in "hgf":
            lot, stretch = [name], ["b", "a"]
            worst = costs.worst_stock(line, lot, stretch)
            self.assertEqual(costs.cost(line, lot, stretch, worst), costs.greatest_cost(line, lot, stretch))
            self.assertEqual(sum(map(len, [costs.barrier(line, lot, stretch), costs.eased(line, lot, stretch, 0)])) > 1, True)
            self.assertEqual(sum(costs.first_stock(line, name, "a").values()), costs.first_cost(line, name, "a"))

    def test_eight_askers_with_the_kinds_of_many_days(self):
        kinds = KINDS[:28]
        line = Line([Asker(name, kinds[at:at + 14], BIG - at) for at, name in enumerate("hgfedcba")])
        stock = {kind: BIG + at for at, kind in enumerate(kinds)}
        self.assertEqual(deals.deal(line, stock), deal_of(line, stock))
        self.assertIs(papers.check_papers(line, stock, papers.papers(line, stock)), True)
        for name in "hgfedcb":
            self.assertEqual([other for other, _ in costs.whom(line, name)], touched(line, name))
