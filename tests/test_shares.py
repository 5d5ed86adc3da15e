"""[102] to [104]: the fairest shares, their blocks, and what shows that shares are not the fairest."""

import itertools
import unittest
from fractions import Fraction

from elderlink.errors import InvalidRanks, InvalidShares, InvalidStock
from elderlink.house import Asker
from elderlink.shares import Ranks, blocks, check_unfair, class_sums, even, even_rows, fair, span, unfair
from tests.rankings import are_right_shares, drawn_ranks, fair_of, is_right_fault, pair_of, splits, tables
from tests.samples import BIG, ElderCase, HUGE, ann, bob, cat, is_ranks, is_right_stock, repr_of, spoiled, strange
from tests.samples import strange_but
from tests.ways import all_stocks, bent, drawn_stocks, line_of, lots, most_of, patterned_lines

RANKS = Ranks([[ann(), cat()], [bob()]])
STOCK = {"a": 2, "b": 1, "ab": 2}


def cases():
    yield Ranks([]), {"a": 1}
    for at, line in enumerate(itertools.islice(patterned_lines(3, "abc"), 0, None, 20)):
        for classes in splits(line.askers()):
            for stock in drawn_stocks(at, 2, "abcz", 4):
                yield Ranks(classes), stock
    for line in (line_of(["ab", "a", "b"], [2, 2, 1]), line_of(["a", "a", "ab"], [1, 3, 2])):
        for stock in all_stocks("ab", 3):
            yield Ranks([line.askers()]), stock
    for at, ranks in enumerate(drawn_ranks(1021, 25, 5, "abcd", 4)):
        for stock in drawn_stocks(at, 2, "abcd", 5):
            yield ranks, stock


def moves(ranks, shares):
    """Shares with some of one asker's given to another one, taken away, or added."""
    for at, (name, (top, bottom)) in enumerate(shares):
        for change in (Fraction(1, 2), Fraction(-1, 3), Fraction(1), Fraction(-1)):
            mine = Fraction(top, bottom) + change
            if mine >= 0:
                yield [*shares[:at], (name, pair_of(mine)), *shares[at + 1:]]
                for near, (other, part) in enumerate(shares):
                    yours = Fraction(*part) - change
                    if other != name and yours >= 0:
                        moved = list(shares)
                        moved[at], moved[near] = (name, pair_of(mine)), (other, pair_of(yours))
                        yield moved
    yield [(name, (0, 1)) for name, _ in shares]


class Fairest(unittest.TestCase):
    def test_fair_and_blocks(self):
        unlike = 0
        for ranks, stock in cases():
            told = fair_of(ranks, stock)
            self.assertEqual(fair(ranks, stock), told)
            found = blocks(ranks, stock)
            self.assertEqual(len(found), len(ranks))
            for own, part in zip(ranks.classes(), found):
                fractions = [Fraction(*each) for _, each in part]
                unlike += len(part) > 1
                self.assertTrue(all(one < other for one, other in zip(fractions, fractions[1:])))
                expected = {}
                for asker in own:
                    expected.setdefault(dict(told)[asker.name], []).append(asker.name)
                self.assertEqual({each: names for names, each in part}, expected)
        self.assertGreater(unlike, 100)

    def test_blocks_by_lots_gone_through(self):
        """[103]: the greatest lot with the least part, then the same behind it."""
        for ranks, stock in itertools.islice(cases(), 0, None, 3):
            elders = []
            for own, part in zip(ranks.classes(), blocks(ranks, stock)):
                rest = own
                for names, fraction in part:
                    base = most_of(elders, stock)
                    parts = {tuple(asker.name for asker in lot): Fraction(most_of(elders + lot, stock) - base, len(lot))
                             for lot in lots(rest)}
                    best = [lot for lot in parts if parts[lot] == min(parts.values())]
                    self.assertEqual((sorted(max(best, key=len)), pair_of(min(parts.values()))), (names, fraction))
                    elders = elders + [asker for asker in rest if asker.name in names]
                    rest = [asker for asker in rest if asker.name not in names]
                self.assertEqual(rest, [])

    def test_full_and_between_spans_and_even_counts(self):
        for ranks, stock in cases():
            shares = fair(ranks, stock)
            amounts = {name: Fraction(*part) for name, part in shares}
            self.assertTrue(are_right_shares(ranks, shares))
            self.assertEqual([sum(amounts[asker.name] for asker in own) for own in ranks.classes()], class_sums(ranks, stock))
            for lot in lots(ranks.line().askers()):
                self.assertLessEqual(sum(amounts[asker.name] for asker in lot), most_of(lot, stock))
            for (name, least, most), (_, count) in zip(span(ranks, stock), even(ranks, stock)):
                self.assertTrue(least <= amounts[name] <= most and least <= count <= most)
                self.assertLess(abs(amounts[name] - count), 1)

    def test_a_class_in_another_order(self):
        for ranks, stock in itertools.islice(cases(), 0, None, 4):
            turned = Ranks([own[::-1] for own in ranks.classes()])
            for function in (fair, blocks, even, even_rows, class_sums, span):
                self.assertEqual(function(turned, stock), function(ranks, stock))

    def test_great_counts(self):
        for great in (BIG, HUGE):
            askers = [Asker(name, ["x"], great) for name in ("a", "b", "c", "d", "e", "f", "g")]
            ranks = Ranks([askers + [Asker("h", ["y"], great)]])
            self.assertEqual(fair(ranks, {"x": great, "y": 5})[6:], [("g", pair_of(Fraction(great, 7))), ("h", (5, 1))])
            found = even_rows(ranks, {"x": great, "y": 5})[0]
            self.assertEqual((found[0], sum(found), found[-1] - found[1]), (5, great + 5, int(great % 7 > 0)))
            shares = [(asker.name, pair_of(Fraction(great, 7))) for asker in askers] + [("h", (4, 1))]
            self.assertEqual(unfair(ranks, {"x": great, "y": 5}, shares), ("less", 0))

    def test_shares_without_bags(self):
        self.assertEqual(fair(RANKS, {"z": 3}), [("ann", (0, 1)), ("cat", (0, 1)), ("bob", (0, 1))])
        self.assertEqual(blocks(RANKS, {}), [[(["ann", "cat"], (0, 1))], [(["bob"], (0, 1))]])
        self.assertEqual((fair(Ranks([]), {"a": 1}), blocks(Ranks([]), {}), unfair(Ranks([]), {}, [])), ([], [], None))

    def test_equals_in_one_block(self):
        three = Ranks([[Asker(name, ["a"], most) for name, most in (("p", 1), ("q", 5), ("r", 5))]])
        self.assertEqual(blocks(three, {"a": 6}), [[(["p"], (1, 1)), (["q", "r"], (5, 2))]])
        self.assertEqual(blocks(three, {"a": 2}), [[(["p", "q", "r"], (2, 3))]])
        self.assertEqual(blocks(three, {"a": 11}), [[(["p"], (1, 1)), (["q", "r"], (5, 1))]])


class Unfair(ElderCase):
    def judged(self, ranks, stock, shares, value):
        kept = repr_of(value)
        self.assertIs(check_unfair(ranks, stock, shares, value), is_right_fault(ranks, stock, shares, value), kept)
        self.assertEqual(repr_of(value), kept)

    def test_all_kinds_of_faults(self):
        words = {"much": 0, "less": 0, "raise": 0, None: 0}
        for ranks, stock in itertools.islice(cases(), 0, None, 5):
            best = fair(ranks, stock)
            self.assertIsNone(unfair(ranks, stock, best))
            for shares in itertools.islice(moves(ranks, best), 0, None, 3):
                found = unfair(ranks, stock, shares)
                self.assertEqual(found is None, shares == best)
                words[found[0] if found else None] += 1
                if found is not None:
                    self.assertTrue(is_right_fault(ranks, stock, shares, found), repr_of((ranks, stock, shares, found)))
                    self.assertIs(check_unfair(ranks, stock, shares, found), True)
        self.assertTrue(all(words[word] > 20 for word in ("much", "less", "raise")), words)

    def test_all_faults_of_some_shares(self):
        for ranks, stock in itertools.islice(cases(), 0, None, 29):
            names = ranks.line().names()
            values = [("much", sorted(lot)) for lot in lots(names)] + [("less", place) for place in range(-1, 5)]
            values += [("raise", name, other) for name in names for other in names]
            values += [("less", True), ("less", False), ("much", []), ("raise", "m"), ("much", names[::-1]), ("raise", "m", "zzz")]
            best = fair(ranks, stock)
            for shares in [best, *itertools.islice(moves(ranks, best), 0, None, 7)]:
                for value in values:
                    self.judged(ranks, stock, shares, value)

    def test_bent(self):
        for shares in ([("ann", (3, 1)), ("cat", (4, 1)), ("bob", (0, 1))], [("ann", (1, 1)), ("cat", (2, 1)), ("bob", (0, 1))],
                       [("ann", (7, 3)), ("cat", (8, 3)), ("bob", (0, 1))], [("ann", (3, 2)), ("cat", (7, 2)), ("bob", (0, 1))]):
            found = unfair(RANKS, {"ab": 5}, shares)
            for value in [found, *bent(found), *spoiled(found)]:
                self.judged(RANKS, {"ab": 5}, shares, value)
        best = fair(RANKS, STOCK)
        for value in [*strange(), ("less", 0), ("less", 1), ("raise", "ann", "cat"), ("much", ["ann"])]:
            self.assertIs(check_unfair(RANKS, STOCK, best, value), False)

    def test_fractions_without_a_common_divisor(self):
        ranks = Ranks([[Asker("p", ["a"], 3), Asker("q", ["a"], 3), Asker("r", ["a"], 3)]])
        shares = [("p", (2, 7)), ("q", (3, 11)), ("r", (3 * 77 - 43, 77))]
        self.assertEqual(unfair(ranks, {"a": 3}, shares)[0], "raise")
        self.assertIs(check_unfair(ranks, {"a": 3}, shares, ("raise", "q", "p")), True)
        self.assertIs(check_unfair(ranks, {"a": 3}, shares, ("raise", "p", "q")), False)
        for bottom in (10 ** 39 + 3, 10 ** 40 - 1):
            shares = [("p", (bottom - 1, bottom)), ("q", (1, 1)), ("r", (bottom + 1, bottom))]
            self.assertIs(check_unfair(ranks, {"a": 3}, shares, ("raise", "p", "r")), True)
            self.assertIs(check_unfair(ranks, {"a": 3}, shares, ("raise", "q", "p")), False)
            shares = [("p", (bottom + 1, bottom)), ("q", (1, 1)), ("r", (1, 1))]
            self.assertEqual(unfair(ranks, {"a": 3}, shares), ("much", ["p", "q", "r"]))
            self.assertEqual(unfair(ranks, {"a": 4}, shares), ("less", 0))

    def test_what_comes_first(self):
        """Much ahead of less, less ahead of raise."""
        ranks = Ranks([[Asker("p", ["a"], 3), Asker("q", ["b"], 3)], [Asker("r", ["b"], 3), Asker("s", ["b"], 3)]])
        stock = {"a": 2, "b": 6}
        for shares, right, wrong in (
            ([("p", (3, 1)), ("q", (1, 1)), ("r", (0, 1)), ("s", (1, 1))], ("much", ["p"]), ("less", 1)),
            ([("p", (2, 1)), ("q", (1, 1)), ("r", (0, 1)), ("s", (1, 1))], ("less", 0), ("raise", "r", "s")),
            ([("p", (2, 1)), ("q", (3, 1)), ("r", (1, 1)), ("s", (2, 1))], ("raise", "r", "s"), ("less", 1)),
        ):
            self.assertIs(check_unfair(ranks, stock, shares, right), True)
            self.assertIs(check_unfair(ranks, stock, shares, wrong), False)
            self.assertEqual(unfair(ranks, stock, shares)[0], right[0])
        both = [("p", (1, 1)), ("q", (2, 1)), ("r", (1, 1)), ("s", (1, 1))]
        self.assertEqual([check_unfair(ranks, stock, both, ("less", place)) for place in (0, 1, 2, True, False)],
                         [True, True, False, False, False])

    def test_no_shares(self):
        right = [("ann", (1, 2)), ("cat", (3, 1)), ("bob", (0, 1))]
        wrong = [value for value in [*bent(right), *spoiled(right)] if not are_right_shares(RANKS, value)]
        wrong += [[("ann", (2, 4)), *right[1:]], [("ann", (1, 0)), *right[1:]], [("ann", (-1, 2)), *right[1:]],
                  [("ann", (1, -2)), *right[1:]], [("ann", (0, 2)), *right[1:]], [("ann", 1), *right[1:]], right[::-1],
                  [("ann", [1, 2]), *right[1:]], [["ann", (1, 2)], *right[1:]], [("ann", (True, 2)), *right[1:]],
                  [("ann", (1, 1, 1)), *right[1:]], [*right[:2], ("bob", (0, True))], tuple(right), dict(right)]
        for value in wrong:
            self.refused(InvalidShares, value, unfair, RANKS, STOCK, value)
            self.refused(InvalidShares, value, check_unfair, RANKS, STOCK, value, None)
        self.assertGreater(len(wrong), 100)
        for shares in ([("ann", (1, 2)), ("cat", (3, 1)), ("bob", (0, 1))], [("ann", (10 ** 40, 1)), ("cat", (3, 7)), ("bob", (0, 1))]):
            self.assertTrue(is_right_fault(RANKS, STOCK, shares, unfair(RANKS, STOCK, shares)))

    def test_which_error_comes_first(self):
        for value in strange_but(is_ranks):
            self.refused(InvalidRanks, value, unfair, value, None, None)
            self.refused(InvalidRanks, value, check_unfair, value, None, None, None)
        for value in strange_but(is_right_stock):
            self.refused(InvalidStock, value, unfair, RANKS, value, None)
            self.refused(InvalidStock, value, check_unfair, RANKS, value, None, None)
        self.assertEqual(list(tables(Ranks([]), {})), [])
