"""[105] and [106]: even deals in whole bags, against all whole deals gone through one by one."""

import itertools
import unittest

from elderlink.errors import InvalidDeal, InvalidRanks, InvalidStock
from elderlink.house import Asker
from elderlink.shares import Ranks, check_even, even, even_rows, evener
from tests.rankings import drawn_ranks, rows_of, splits, whole_deals
from tests.samples import BIG, ElderCase, HUGE, is_ranks, is_right_stock, repr_of, spoiled, strange_but
from tests.ways import all_stocks, bent, drawn_stocks, line_of, patterned_lines


def cases():
    yield Ranks([]), {"a": 1}
    for at, line in enumerate(itertools.islice(patterned_lines(3, "abc"), 0, None, 29)):
        for classes in splits(line.askers()):
            for stock in drawn_stocks(at, 2, "abcz", 4):
                yield Ranks(classes), stock
    for line in (line_of(["ab", "a", "b"], [2, 3, 1]), line_of(["a", "a", "ab"], [1, 3, 3])):
        for stock in all_stocks("ab", 3):
            yield Ranks([line.askers()]), stock
    for at, ranks in enumerate(drawn_ranks(1031, 30, 5, "abcd", 3)):
        for stock in drawn_stocks(at, 2, "abcd", 4):
            yield ranks, stock


class EvenDeals(unittest.TestCase):
    def test_against_all_whole_deals(self):
        several = 0
        for ranks, stock in cases():
            deals = list(whole_deals(ranks, stock))
            best = max(rows_of(ranks, told) for told in deals)
            found = even(ranks, stock)
            self.assertIn(found, deals)
            self.assertEqual((rows_of(ranks, found), even_rows(ranks, stock)), (best, best))
            for told in deals:
                right = rows_of(ranks, told) == best
                several += right and told != found
                self.assertIs(check_even(ranks, stock, told), right)
        self.assertGreater(several, 50)

    def test_evener_of_all_whole_deals(self):
        moved = 0
        for ranks, stock in itertools.islice(cases(), 0, None, 2):
            deals = list(whole_deals(ranks, stock))
            best = max(rows_of(ranks, told) for told in deals)
            for told in deals:
                found = evener(ranks, stock, told)
                self.assertEqual(found is None, rows_of(ranks, told) == best)
                if found is not None:
                    moved += 1
                    giver, receiver = found
                    counts = dict(told)
                    self.assertGreaterEqual(counts[giver], counts[receiver] + 2)
                    self.assertTrue(any({giver, receiver} <= {asker.name for asker in own} for own in ranks.classes()))
                    counts[giver] -= 1
                    counts[receiver] += 1
                    self.assertIn([(name, counts[name]) for name, _ in told], deals)
        self.assertGreater(moved, 100)

    def test_elder_classes_do_not_matter(self):
        """[105]: a class's even counts do not hang on how elder classes share."""
        for ranks in drawn_ranks(1032, 12, 4, "abc", 3):
            for stock in drawn_stocks(1033, 2, "abc", 4):
                rows = even_rows(ranks, stock)
                deals = list(whole_deals(ranks, stock))
                for told in deals:
                    last = ranks.classes()[-1]
                    kept = told[:-len(last)]
                    same = [other for other in deals if other[:len(kept)] == kept]
                    self.assertEqual(max(rows_of(ranks, other)[-1] for other in same), rows[-1])

    def test_great_counts(self):
        for great in (BIG, HUGE):
            ranks = Ranks([[Asker(name, ["a"], great) for name in ("p", "q", "r")], [Asker("s", ["a", "b"], great)]])
            stock = {"a": 2 * great + 1, "b": 3}
            low = (2 * great + 1) // 3
            rows = [sorted([low + (at < (2 * great + 1) % 3) for at in range(3)]), [3]]
            self.assertEqual(even_rows(ranks, stock), rows)
            told = [("p", great), ("q", great), ("r", 1), ("s", 3)]
            self.assertEqual((check_even(ranks, stock, told), check_even(ranks, stock, even(ranks, stock))), (False, True))
            self.assertIn(evener(ranks, stock, told), (("p", "r"), ("q", "r")))
            self.assertIsNone(evener(ranks, stock, even(ranks, stock)))


class Judged(ElderCase):
    def test_bent(self):
        for ranks, stock in itertools.islice(cases(), 1, None, 9):
            deals = [repr_of(told) for told in whole_deals(ranks, stock)]
            best = even_rows(ranks, stock)
            for value in [*bent(even(ranks, stock)), *itertools.islice(spoiled(even(ranks, stock)), 300)]:
                kept = repr_of(value)
                there = kept in deals
                self.assertIs(check_even(ranks, stock, value), there and rows_of(ranks, value) == best, kept)
                if not there:
                    self.refused(InvalidDeal, value, evener, ranks, stock, value)
                self.assertEqual(repr_of(value), kept)

    def test_no_whole_deals(self):
        ranks = Ranks([[Asker("p", ["a"], 2), Asker("q", ["a", "b"], 2)], [Asker("r", ["b"], 2)]])
        stock = {"a": 2, "b": 3}
        for value in ([("p", 2), ("q", 2), ("r", 2)], [("p", 2), ("q", 1), ("r", 1)], [("p", 1), ("q", 2), ("r", 2)],
                      [("p", 3), ("q", 1), ("r", 1)], [("q", 2), ("p", 2), ("r", 1)], [("p", 2), ("q", 2)],
                      [("p", 2), ("q", 2), ("r", True)], [("p", 2), ("q", 2), ["r", 1]], [("p", 2), ("q", 3), ("r", 0)],
                      (("p", 2), ("q", 2), ("r", 1)), [("p", 2), ("q", 2), ("r", 1), ("r", 1)], [("p", 2), ("q", 2), ("r", -1)]):
            self.assertIs(check_even(ranks, stock, value), False)
            self.refused(InvalidDeal, value, evener, ranks, stock, value)
        self.assertEqual((even(ranks, stock), evener(ranks, stock, even(ranks, stock))), ([("p", 2), ("q", 2), ("r", 1)], None))

    def test_which_error_comes_first(self):
        ranks = Ranks([[Asker("p", ["a"], 2)]])
        for value in strange_but(is_ranks):
            self.refused(InvalidRanks, value, evener, value, None, None)
            self.refused(InvalidRanks, value, check_even, value, None, None)
        for value in strange_but(is_right_stock):
            self.refused(InvalidStock, value, evener, ranks, value, None)
            self.refused(InvalidStock, value, check_even, ranks, value, None)
