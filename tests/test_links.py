"""[70], [71] and [75]: links, groups, rows, parents, and who is touched."""

import unittest

from elderlink.errors import UnknownName
from elderlink.house import Asker, Line
from elderlink.orders import chain, forest, group, linked, parent, touched
from tests.samples import ElderCase, repr_of, strange_but, trio
from tests.ways import all_lines, all_stocks, deal_of, drawn_lines, group_of, grown, line_of, parent_of, patterned_lines
from tests.ways import share


def cases():
    yield Line([])
    for many in range(1, 4):
        yield from all_lines(many, "abc" if many < 3 else "ab", (1,))
    yield from patterned_lines(3, "abc")
    yield from drawn_lines(31, 60, 6, "abcdefgh", 2)
    yield from drawn_lines(32, 40, 8, "abcdefghijkl", 2)


def far_apart(askers, first):
    """How many links lead at least from a name to each other one."""
    steps, edge = {first: 0}, [first]
    while edge:
        edge = [
            other.name for other in askers if other.name not in steps
            and any(share(other, asker) for asker in askers if asker.name in edge)
        ]
        steps.update({name: max(steps.values()) + 1 for name in edge})
    return steps


class Groups(ElderCase):
    def test_linked(self):
        for line in cases():
            for one in line.askers():
                for other in line.askers():
                    self.assertIs(linked(line, one.name, other.name), share(one, other))

    def test_group_and_parent_and_forest(self):
        for line in cases():
            pairs = []
            for name in line.names():
                self.assertEqual(group(line, name), group_of(line, name))
                self.assertEqual(parent(line, name), parent_of(line, name))
                pairs.append((name, parent_of(line, name)))
            self.assertEqual(forest(line), pairs)

    def test_a_group_is_all_that_lead_up_to_it(self):
        for line in cases():
            parents = dict(forest(line))
            for name in line.names():
                own = []
                for each in line.names():
                    up = each
                    while up is not None and up != name:
                        up = parents[up]
                    if up == name:
                        own.append(each)
                self.assertEqual(group(line, name), own)

    def test_chains_are_rows_as_short_as_any(self):
        for line in cases():
            names = line.names()
            for at, name in enumerate(names):
                askers = line.askers()[:at + 1]
                for elder in names[:at]:
                    found = chain(line, name, elder)
                    if elder not in grown(askers, name):
                        self.assertIsNone(found)
                        continue
                    self.assertIs(type(found), list)
                    self.assertEqual((found[0], found[-1]), (elder, name))
                    self.assertTrue(all(each in names[:at] for each in found[:-1]))
                    self.assertTrue(all(linked(line, one, other) for one, other in zip(found, found[1:])))
                    self.assertEqual(len(found) - 1, far_apart(askers, elder)[name])

    def test_a_row_by_somebody_behind_does_not_count(self):
        line = line_of(["a", "b", "ab"], [1, 1, 1])
        self.assertEqual([group(line, "c"), chain(line, "c", "m"), parent(line, "m"), parent(line, "c")], [["c"], None, "x", "x"])
        self.assertEqual([chain(line, "x", "m"), group(line, "x")], [["m", "x"], ["m", "c", "x"]])

    def test_results_are_new(self):
        line = trio()
        for call in (lambda: group(line, "cat"), lambda: forest(line), lambda: chain(line, "cat", "bob"),
                     lambda: touched(line, "ann")):
            first = call()
            told = repr_of(first)
            first.clear()
            self.assertEqual(repr_of(call()), told)

    def test_names_of_nobody(self):
        names = trio().names()
        for value in strange_but(lambda value: value in names) + ["dan"]:
            for function in (group, parent, touched):
                self.refused(UnknownName, value, function, trio(), value)
                self.refused(UnknownName, value, function, name=value, line=trio())
            for near in ("ann", value, None):
                self.refused(UnknownName, value, linked, trio(), value, near)
                self.refused(UnknownName, value, chain, trio(), value, near)
            for name in names:
                self.refused(UnknownName, value, linked, trio(), name, value)
                self.refused(UnknownName, value, chain, trio(), name, value)

    def test_an_elder_stands_ahead(self):
        for name, elder in (("ann", "ann"), ("ann", "bob"), ("bob", "cat"), ("cat", "cat"), ("bob", "bob")):
            self.refused(UnknownName, elder, chain, trio(), name, elder)
        self.assertEqual(chain(elder="ann", name="bob", line=trio()), ["ann", "bob"])


class Touched(unittest.TestCase):
    def test_against_all_small_stocks(self):
        lines = [*all_lines(3, "ab", (1, 2)), *patterned_lines(3, "abc")]
        lines += drawn_lines(33, 12, 4, "abc", 2)
        for line in lines:
            kinds = line.kinds()
            counts = 4 if len(kinds) > 2 else 5
            deals = [dict(deal_of(line, stock)) for stock in all_stocks(kinds, counts)]
            for name in line.names():
                other = line.without(name)
                unlike = set()
                for stock, before in zip(all_stocks(kinds, counts), deals):
                    if len(unlike) < len(other):
                        unlike.update(each for each, count in deal_of(other, stock) if count != before[each])
                self.assertEqual(touched(line, name), [each for each in line.names() if each in unlike])

    def test_parents_of_parents(self):
        for line in cases():
            parents = dict(forest(line))
            for name in line.names():
                row, up = [], parents[name]
                while up is not None:
                    row.append(up)
                    up = parents[up]
                self.assertEqual(touched(line, name), row)
                self.assertEqual(touched(line, name), [each for each in line.names() if name in group(line, each)
                                                       and each != name])

    def test_one_asker_alone(self):
        line = Line([Asker("ann", ["a"], 1)])
        self.assertEqual([touched(line, "ann"), group(line, "ann"), parent(line, "ann")], [[], ["ann"], None])
        self.assertEqual([forest(line), forest(Line([]))], [[("ann", None)], []])
