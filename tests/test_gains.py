"""[90], [91], [97]: who gains, who loses and who pays, and how a bag more comes from hand to hand."""

import itertools
import unittest

from elderlink.deals import check_spread, deal
from elderlink.gains import check_way, gain_way, gainer, loser, payer
from elderlink.house import Asker, Line, recalled, renamed
from tests.samples import BIG, ElderCase, HUGE, repr_of, spoiled, strange
from tests.ways import all_lines, all_stocks, bent, deal_of, drawn_lines, drawn_stocks, is_right_spread, line_of
from tests.ways import patterned_lines

THREE = Line([Asker("ann", ["o"], 1), Asker("bob", ["a", "o"], 2), Asker("cid", ["a"], 2)])
FEW = {"o": 1, "a": 2}


def cases():
    yield Line([]), {"a": 1}
    for line in [*all_lines(1, "ab", (1, 2)), *itertools.islice(all_lines(2, "ab", (1, 2)), 0, None, 2)]:
        for stock in all_stocks("ab", 3):
            yield line, stock
    for at, line in enumerate(itertools.islice(patterned_lines(3, "abc"), 0, None, 2)):
        for stock in drawn_stocks(at, 2, "abcz", 3):
            yield line, stock
    for at, line in enumerate(drawn_lines(901, 25, 5, "abcde", 3)):
        for stock in drawn_stocks(at, 3, "abcde", 3):
            yield line, stock


def unlike(before, after):
    """The tuples (name, by how much) of two deals of the same names."""
    return [(name, more - count) for (name, count), (_, more) in zip(before, after) if more != count]


def is_right_way(line, stock, kind, value):
    """[91] by its words, by the tests' own deal."""
    counts = deal_of(line, stock)
    gains = unlike(counts, deal_of(line, {**stock, kind: stock.get(kind, 0) + 1}))
    if type(value) is not tuple or len(value) != 2 or not gains:
        return False
    found, way = value
    if not is_right_spread(line, stock, counts, found) or type(way) is not list or not way:
        return False
    for step in way:
        if type(step) is not tuple or len(step) != 2 or not all(type(part) is str for part in step):
            return False
        if step[1] not in line.names() or step[0] not in line.asker(step[1]).fits:
            return False
    names = [name for _, name in way]
    owned = [entry[:2] for entry in found]
    if len(set(names)) < len(names) or way[0][0] != kind or names[-1] != gains[0][0]:
        return False
    return all((giver, given) in owned for (_, giver), (given, _) in zip(way, way[1:]))


class Gains(unittest.TestCase):
    def test_gainer_and_loser_by_both_deals(self):
        for line, stock in cases():
            counts = deal_of(line, stock)
            for kind in ("a", "b", "c", "z"):
                more = unlike(counts, deal_of(line, {**stock, kind: stock.get(kind, 0) + 1}))
                self.assertLessEqual(len(more), 1)
                self.assertEqual(gainer(line, stock, kind), more[0][0] if more else None)
                self.assertIn(more, [[], [(gainer(line, stock, kind), 1)]])
                if stock.get(kind, 0) == 0:
                    self.assertIsNone(loser(line, stock, kind))
                    continue
                less = unlike(counts, deal_of(line, {**stock, kind: stock[kind] - 1}))
                self.assertIn(less, [[], [(loser(line, stock, kind), -1)]])
                self.assertEqual(loser(line, stock, kind), less[0][0] if less else None)

    def test_payer_by_both_deals(self):
        for line, stock in cases():
            counts = deal_of(line, stock)
            for asker in line.askers():
                keener = line.changed(Asker(asker.name, asker.fits, asker.most + 1))
                found = dict(unlike(counts, deal_of(keener, stock)))
                pays = [name for name in found if found[name] < 0]
                self.assertEqual(payer(line, stock, asker.name), pays[0] if pays else None)
                if pays:
                    self.assertEqual(found, {asker.name: 1, pays[0]: -1})
                    self.assertGreater(line.place(pays[0]), line.place(asker.name))

    def test_ways(self):
        told = 0
        for line, stock in cases():
            for kind in ("a", "b", "c", "z"):
                found = gain_way(line, stock, kind)
                self.assertEqual(found is None, gainer(line, stock, kind) is None)
                if found is not None:
                    told += 1
                    self.assertTrue(is_right_way(line, stock, kind, found), (repr_of(line), stock, kind, found))
                    self.assertIs(check_way(line, stock, kind, found), True)
                    elders = line.names()[:line.place(found[1][-1][1])]
                    self.assertTrue(all(name in elders for _, name in found[1][:-1]))
        self.assertGreater(told, 800)

    def test_long_ways(self):
        kinds = "abcdef"
        line = Line([Asker(kind * 2, [kind, more], 1) for kind, more in zip(kinds, kinds[1:])])
        stock = {kind: 1 for kind in kinds[1:-1]}
        self.assertEqual(gain_way(line, stock, "a"), (
            [(kind * 2, more, 1) for kind, more in zip(kinds[:4], kinds[1:])],
            [("a", "aa"), ("b", "bb"), ("c", "cc"), ("d", "dd"), ("e", "ee")]))
        self.assertEqual(gain_way(line, stock, "f")[1], [("f", "ee")])

    def test_nobody(self):
        for kind in ("a", "o", "z"):
            self.assertEqual([gainer(Line([]), FEW, kind), loser(Line([]), FEW, kind), gain_way(Line([]), FEW, kind)], [None] * 3)
        full = {"o": 3, "a": 3}
        self.assertEqual([gain_way(THREE, full, kind) for kind in ("o", "a", "z")], [None] * 3)
        self.assertEqual([loser(THREE, {"o": 0, "a": 9}, "o"), loser(THREE, {"z": 4}, "z"), loser(THREE, {}, "a")], [None] * 3)

    def test_great_counts(self):
        for great in (BIG, HUGE):
            line = Line([Asker("m", ["a"], great), Asker("c", ["a", "b"], great), Asker("x", ["b"], great)])
            stock = {"a": great + 5, "b": 2 * great - 6}
            self.assertEqual([gainer(line, stock, kind) for kind in ("a", "b", "c")], ["x", "x", None])
            self.assertEqual(gain_way(line, stock, "a")[1], [("a", "c"), ("b", "x")])
            self.assertEqual(loser(line, stock, "a"), "x")
            self.assertEqual([payer(line, stock, name) for name in ("m", "c", "x")], ["x", "x", None])
            self.assertIsNone(gainer(line, {"a": 2 * great, "b": great}, "a"))

    def test_a_stock_that_is_changed_in_place(self):
        stock = {"o": 1, "a": 2}
        self.assertEqual([gainer(THREE, stock, "a"), gain_way(THREE, stock, "a")[1], payer(THREE, stock, "ann")],
                         ["cid", [("a", "cid")], None])
        stock["a"] = 5
        self.assertEqual([gainer(THREE, stock, "a"), gain_way(THREE, stock, "a"), loser(THREE, stock, "o")], [None, None, "ann"])
        del stock["o"]
        self.assertEqual([gainer(THREE, stock, "o"), gain_way(THREE, stock, "o")[1], loser(THREE, stock, "o")],
                         ["ann", [("o", "ann")], None])
        found = gain_way(THREE, stock, "o")
        found[0].clear()
        found[1].append(("a", "cid"))
        self.assertEqual(gain_way(THREE, stock, "o")[1], [("o", "ann")])

    def test_called_otherwise(self):
        kinds = {"a": "zz", "zz": "b", "b": "a"}
        for line, stock in itertools.islice(cases(), 0, None, 9):
            askers = dict(zip(line.names(), line.names()[1:] + line.names()[:1]))
            for kind in "abc":
                new = kinds.get(kind, kind)
                name, lost = gainer(line, stock, kind), loser(line, stock, kind)
                self.assertEqual(gainer(renamed(line, kinds), renamed(stock, kinds), new), name)
                self.assertEqual(loser(renamed(line, kinds), renamed(stock, kinds), new), lost)
                self.assertEqual(gainer(recalled(line, askers), stock, kind), askers.get(name))
                self.assertEqual(loser(recalled(line, askers), stock, kind), askers.get(lost))


class Judged(ElderCase):
    def judged(self, line, stock, kind, value):
        kept = repr_of(value)
        self.assertIs(check_way(line, stock, kind, value), is_right_way(line, stock, kind, value), kept)
        self.assertEqual(repr_of(value), kept)

    def test_bent_in_one_place(self):
        for line, stock in [(THREE, FEW), *itertools.islice(cases(), 0, None, 31)]:
            for kind in ("a", "o", "b"):
                found = gain_way(line, stock, kind)
                if found is not None:
                    for value in [*bent(found), *(spoiled(found) if line is THREE else [])]:
                        self.judged(line, stock, kind, value)
                    for wrong in ("z", "a", "o"):
                        self.judged(line, stock, wrong, found)

    def test_ways_by_every_spread(self):
        line, stock = line_of(["ab", "ab", "bc", "c"], [1, 2, 1, 2]), {"a": 2, "b": 1, "c": 1}
        entries = [(name, kind, number) for name in sorted(line.names()) for kind in line.asker(name).fits for number in (1, 2)]
        steps = [(kind, name) for name in line.names() for kind in line.asker(name).fits]
        right = 0
        for many in range(3, 6):
            for found in itertools.combinations(entries, many):
                if check_spread(line, stock, deal(line, stock), list(found)):
                    for length in range(1, 4):
                        for way in itertools.permutations(steps, length):
                            self.judged(line, stock, "a", (list(found), list(way)))
                            right += check_way(line, stock, "a", (list(found), list(way)))
        self.assertEqual(right, 2)

    def test_where_nobody_gains_nothing_is_right(self):
        found = gain_way(THREE, FEW, "a")
        self.assertIs(check_way(THREE, FEW, "a", found), True)
        for kind, stock in (("b", FEW), ("a", {"o": 3, "a": 3})):
            for value in [found, None, ([], []), (deal(THREE, stock), []), *strange()]:
                self.assertIs(check_way(THREE, stock, kind, value), False)

    def test_kinds_that_do_not_fit(self):
        entries, _ = gain_way(THREE, FEW, "o")
        self.judged(THREE, FEW, "o", (entries, [("o", "cid")]))
        self.assertIs(check_way(THREE, FEW, "o", (entries, [("o", "cid")])), False)
        # bob has a bag of a, but no bag of o, which does not fit cid either.
        for way in ([("o", "bob"), ("o", "cid")], [("o", "ann"), ("o", "cid")], [("o", "ann"), ("a", "cid")], [("a", "bob"), ("a", "cid")]):
            self.judged(THREE, FEW, "o", (entries, way))
            self.assertIs(check_way(THREE, FEW, "o", (entries, way)), False)
        line, stock = line_of(["ab", "c", "bc"], [2, 1, 2]), {"a": 1, "b": 1, "c": 2}
        entries = [("c", "c", 1), ("m", "a", 1), ("m", "b", 1), ("x", "c", 1)]
        for way, right in (([("a", "m"), ("b", "x")], True), ([("a", "m"), ("a", "x")], False), ([("a", "m"), ("b", "c"), ("c", "x")], False)):
            self.judged(line, stock, "a", (entries, way))
            self.assertIs(check_way(line, stock, "a", (entries, way)), right)

    def test_small_bends(self):
        entries, way = gain_way(THREE, FEW, "o")
        for value in ((entries, []), (entries, tuple(way)), [entries, way], (entries, way, []), (tuple(entries), way),
                      (entries, way[:-1]), (entries, way + way), (entries, [list(step) for step in way]),
                      (entries, way[1:]), (entries, [("o", "ann")]), ([], way), (entries, [("o", "bob"), ("o", "ann")])):
            self.assertIs(check_way(THREE, FEW, "o", value), False)
