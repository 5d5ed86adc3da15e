"""[60] to [62]: who is short and why, told papers, and who is harmed."""

import itertools
import unittest

from elderlink.deals import check_spread, deal
from elderlink.house import Asker, Line
from elderlink.papers import check_papers, check_shortage, harmed, papers, shortage
from tests.samples import BIG, repr_of, strange, trio
from tests.ways import all_lines, all_stocks, are_right_counts, bent, deal_of, drawn_lines, drawn_stocks
from tests.ways import is_right_shortage, is_right_spread, lots, patterned_lines

SOME = {"a": 4, "b": 1, "ab": 2}


def cases():
    for many in range(1, 3):
        for line in all_lines(many, "ab", (1, 2)):
            for stock in all_stocks("ab", 3):
                yield line, stock
    for at, line in enumerate(patterned_lines(3, "abc")):
        for stock in drawn_stocks(at, 2, "abcz", 3):
            yield line, stock
    for line in drawn_lines(21, 40, 6, "abcdef", 4):
        for stock in drawn_stocks(22, 3, "abcdefz", 5):
            yield line, stock


def is_right_paper(line, stock, value):
    """[61] by adding up alone, as its last words say."""
    if type(value) is not tuple or len(value) != 3:
        return False
    told, entries, lists = value
    if not are_right_counts(line, told) or not is_right_spread(line, stock, told, entries):
        return False
    counts = dict(told)
    short = [name for name in line.names() if counts[name] < line.asker(name).most]
    if type(lists) is not list or len(lists) != len(short):
        return False
    for name, pair in zip(short, lists):
        if type(pair) is not tuple or len(pair) != 2 or type(pair[0]) is not str or pair[0] != name:
            return False
        names = pair[1]
        if type(names) is not list or not all(type(each) is str and each in line.names() for each in names):
            return False
        if names != sorted(set(names)) or name not in names:
            return False
        if any(line.place(each) > line.place(name) for each in names):
            return False
        kinds = {kind for each in names for kind in line.asker(each).fits}
        if sum(counts[each] for each in names) != sum(stock.get(kind, 0) for kind in kinds):
            return False
    return True


class Shortages(unittest.TestCase):
    def test_right_ones(self):
        for line, stock in cases():
            counts = dict(deal_of(line, stock))
            for name in line.names():
                found = shortage(line, stock, name)
                if counts[name] == line.asker(name).most:
                    self.assertIsNone(found)
                else:
                    self.assertTrue(is_right_shortage(line, stock, name, found), (repr_of(line), stock, found))
                    self.assertIs(check_shortage(line, stock, name, found), True)

    def test_all_lists_of_names(self):
        for line, stock in itertools.chain(
            itertools.islice(cases(), 0, None, 9), [(trio(), SOME), (trio(), {"b": 3, "a": 1}), (trio(), {})],
        ):
            for name in line.names():
                for many in range(min(len(line), 3) + 1):
                    for names in itertools.permutations(line.names(), many):
                        expected = is_right_shortage(line, stock, name, list(names))
                        self.assertIs(check_shortage(line, stock, name, list(names)), expected)

    def test_bent_in_one_place(self):
        for value in bent(["ann", "bob", "cat"]):
            expected = is_right_shortage(trio(), SOME, "cat", value)
            self.assertIs(check_shortage(trio(), SOME, "cat", value), expected, repr_of(value))
        for value in (["ann", "ann", "bob", "cat"], ["bob", "ann", "cat"], ("ann", "bob", "cat"), ["ann", "bob"]):
            self.assertIs(check_shortage(trio(), SOME, "cat", value), False)

    def test_any_object(self):
        for value in strange():
            for name in ("ann", "bob", "cat"):
                expected = is_right_shortage(trio(), SOME, name, value)
                self.assertIs(check_shortage(trio(), SOME, name, value), expected, repr_of(value))
                self.assertIs(check_shortage(trio(), {"a": 9, "b": 9}, name, value), False)

    def test_who_gets_its_most_is_never_short(self):
        line = Line([Asker("m", ["a"], 2), Asker("c", ["a"], 1)])
        # Just enough: the names would have all bags, but nobody is short.
        self.assertEqual([shortage(line, {"a": 3}, "c"), shortage(line, {"a": 2}, "m")], [None, None])
        self.assertIs(check_shortage(line, {"a": 3}, "c", ["c", "m"]), False)
        self.assertIs(check_shortage(line, {"a": 2}, "m", ["m"]), False)
        self.assertIs(check_shortage(line, {"a": 2}, "c", ["c", "m"]), True)

    def test_only_elders(self):
        line = Line([Asker("m", ["a"], 2), Asker("c", ["b"], 1)])
        self.assertEqual(shortage(line, {"a": 1}, "m"), ["m"])
        self.assertIs(check_shortage(line, {"a": 1}, "m", ["c", "m"]), False)
        self.assertIs(check_shortage(line, {"a": 1}, "c", ["c", "m"]), True)
        self.assertEqual(shortage(line, {"a": 1}, "c"), ["c"])

    def test_no_bags_at_all(self):
        self.assertEqual(shortage(trio(), {}, "cat"), ["cat"])
        self.assertIs(check_shortage(trio(), {"z": 4, "a": 0}, "cat", ["ann", "cat"]), True)

    def test_new_lists(self):
        found = shortage(trio(), SOME, "cat")
        found.clear()
        self.assertIs(check_shortage(trio(), SOME, "cat", shortage(trio(), SOME, "cat")), True)


class Papers(unittest.TestCase):
    def test_right_ones(self):
        for line, stock in cases():
            found = papers(line, stock)
            self.assertIs(type(found), tuple)
            self.assertEqual(found[0], deal_of(line, stock))
            self.assertTrue(is_right_paper(line, stock, found))
            self.assertIs(check_papers(line, stock, found), True)
            self.assertEqual([name for name, _ in found[2]],
                             [asker.name for asker in line.askers() if dict(found[0])[asker.name] < asker.most])

    def test_bent_in_one_place(self):
        lines = [(trio(), SOME), (trio(), {"b": 2}), (trio(), {"a": 9, "b": 9}), (Line([]), {"a": 1})]
        lines += [(line, {"a": 2, "b": 1, "c": 1}) for line in drawn_lines(23, 6, 3, "abc", 2)]
        for line, stock in lines:
            right = papers(line, stock)
            for value in [right, *bent(right)]:
                kept = repr_of(value)
                self.assertIs(check_papers(line, stock, value), is_right_paper(line, stock, value), kept)
                self.assertEqual(repr_of(value), kept)

    def test_any_spread_and_any_lists(self):
        stock = {"a": 2, "ab": 2}
        counts = [("ann", 3), ("bob", 1), ("cat", 0)]
        self.assertEqual(deal(trio(), stock), counts)
        one, other = [("ann", "a", 2), ("ann", "ab", 1), ("bob", "a", 0)], [("ann", "a", 1), ("ann", "ab", 2), ("bob", "a", 1)]
        for entries, right in ((one, False), (other, True), (one[:2], False)):
            for short in lots(["ann", "bob"]):
                for shorter in lots(["ann", "bob", "cat"]):
                    lists = [("bob", short), ("cat", shorter)]
                    expected = right and is_right_paper(trio(), stock, (counts, entries, lists))
                    self.assertIs(check_papers(trio(), stock, (counts, entries, lists)), expected)
        self.assertIs(check_papers(trio(), stock, (counts, other, [("bob", ["ann", "bob"]), ("cat", ["ann", "bob", "cat"])])), True)

    def test_a_list_that_tells_an_asker_with_its_most(self):
        counts, entries, lists = papers(trio(), SOME)
        self.assertEqual([name for name, _ in lists], ["cat"])
        for more in ([("ann", ["ann"]), *lists], [("bob", ["ann", "bob"]), *lists], [*lists, *lists], []):
            self.assertIs(check_papers(trio(), SOME, (counts, entries, more)), False)
        full = {"a": 5, "b": 4}
        counts, entries, lists = papers(trio(), full)
        self.assertEqual(lists, [])
        self.assertIs(check_papers(trio(), full, (counts, entries, [("cat", ["ann", "bob", "cat"])])), False)

    def test_counts_that_are_no_deal(self):
        line = Line([Asker("m", ["a"], 1), Asker("c", ["a"], 1)])
        for lists in ([], [("m", ["m"])], [("m", ["c", "m"])], [("c", ["c"])], [("c", ["c", "m"])]):
            self.assertIs(check_papers(line, {"a": 1}, ([("m", 0), ("c", 1)], [("c", "a", 1)], lists)), False)
        right = ([("m", 1), ("c", 0)], [("m", "a", 1)], [("c", ["c", "m"])])
        self.assertIs(check_papers(line, {"a": 1}, right), True)
        self.assertIs(check_papers(line, {"a": 1}, ([("m", True), ("c", 0)], *right[1:])), False)
        self.assertIs(check_papers(line, {"a": 1}, ([("m", 1), ("c", False)], *right[1:])), False)
        self.assertIs(check_papers(line, {"a": 1}, ([("m", 1), ("c", 0)], [("m", "a", True)], right[2])), False)

    def test_any_object(self):
        for value in strange():
            for line, stock in ((trio(), SOME), (Line([]), {})):
                self.assertIs(check_papers(line, stock, value), False, repr_of(value))
                counts, entries, lists = papers(line, stock)
                for told in ((value, entries, lists), (counts, value, lists), (counts, entries, value)):
                    self.assertIs(check_papers(line, stock, told), is_right_paper(line, stock, told), repr_of(told))
            counts, entries, lists = papers(trio(), SOME)
            for told in ([value], [(value, lists[0][1])], [("cat", value)], [("cat", [value])], [("cat", ["ann", value])]):
                self.assertIs(check_papers(trio(), SOME, (counts, entries, told)), False)

    def test_empty_line(self):
        self.assertEqual(papers(Line([]), {"a": 2}), ([], [], []))
        self.assertIs(check_papers(Line([]), {"a": 2}, ([], [], [])), True)
        self.assertIs(check_papers(Line([]), {"a": 2}, [[], [], []]), False)

    def test_great_counts(self):
        line = Line([Asker("m", ["a", "b"], BIG), Asker("c", ["a"], BIG), Asker("x", ["b", "c"], BIG)])
        stock = {"a": BIG - 1, "b": BIG // 2, "c": 3}
        found = papers(line, stock)
        self.assertTrue(is_right_paper(line, stock, found))
        self.assertIs(check_papers(line, stock, found), True)
        self.assertIs(check_spread(line, stock, found[0], found[1]), True)


class Harmed(unittest.TestCase):
    def judged(self, one, other, stock):
        before, after = dict(deal_of(one, stock)), dict(deal_of(other, stock))
        expected = sorted(name for name in before if name in after and after[name] < before[name])
        self.assertEqual(harmed(one, other, stock), expected)
        return expected

    def test_all_pairs_of_small_lines(self):
        lines = [Line([]), *all_lines(1, "ab", (1, 2)), *itertools.islice(all_lines(2, "ab", (1, 2)), 0, None, 3)]
        for one, other in itertools.product(lines, lines):
            for stock in ({"a": 1}, {"a": 2, "b": 1}):
                self.judged(one, other, stock)

    def test_leaving_a_lesser_most_and_a_place_further_behind(self):
        for line in drawn_lines(24, 40, 5, "abcd", 3):
            for stock in drawn_stocks(25, 2, "abcd", 4):
                for asker in line.askers():
                    name = asker.name
                    self.assertEqual(self.judged(line, line.without(name), stock), [])
                    for most in range(1, asker.most):
                        lesser = line.changed(Asker(name, asker.fits, most))
                        self.assertIn(self.judged(line, lesser, stock), ([], [name]))
                    for place in range(line.place(name), len(line)):
                        self.assertIn(self.judged(line, line.moved(name, place), stock), ([], [name]))

    def test_more_bags_never_lessen(self):
        for line in drawn_lines(26, 30, 5, "abcd", 3):
            for stock in drawn_stocks(27, 3, "abcd", 3):
                before = dict(deal(line, stock))
                for kind in "abcd":
                    after = dict(deal(line, {**stock, kind: stock[kind] + 1}))
                    self.assertTrue(all(after[name] >= before[name] for name in before))

    def test_one_more_kind_can_harm(self):
        line = Line([Asker("m", ["a"], 1), Asker("c", ["b"], 1)])
        more = line.changed(Asker("m", ["a", "b"], 1))
        self.assertEqual([harmed(line, more, {"b": 1}), harmed(more, line, {"b": 1})], [["c"], ["m"]])

    def test_lines_without_a_common_name(self):
        self.assertEqual(harmed(trio(), Line([Asker("m", ["a"], 1)]), SOME), [])
        self.assertEqual(harmed(Line([]), trio(), SOME), [])
        self.assertEqual(harmed(trio(), trio(), SOME), [])

    def test_ascending(self):
        line = Line([Asker(name, ["a"], 1) for name in ("x", "b", "m", "c")])
        self.assertEqual(harmed(line, line.put_in(Asker("zz", ["a"], 3), 0), {"a": 4}), ["b", "c", "m"])
