"""[100], [101], [107] to [109]: ranks, class sums, spans, and which ranks share alike."""

import itertools

from elderlink.deals import deal
from elderlink.errors import InvalidRanks, InvalidStock, Unlike
from elderlink.house import Asker, Line
from elderlink.shares import Ranks, alike_ranks, blocks, check_parting_ranks, class_sums, even, even_rows, fair
from elderlink.shares import harmed_shares, parted, parting_ranks, span
from tests.rankings import drawn_ranks, fair_of, joined_of, rows_of, splits
from tests.samples import BIG, ElderCase, HUGE, ann, bob, cat, dan, is_ranks, is_right_stock, nested, repr_of, spoiled, strange
from tests.samples import strange_but, trio
from tests.ways import all_stocks, bent, deal_of, drawn_lines, drawn_stocks, line_of, patterned_lines


def lines_of(ranks):
    """All lines in which the classes stand in their order."""
    for parts in itertools.product(*[itertools.permutations(askers) for askers in ranks.classes()]):
        yield Line([asker for part in parts for asker in part])


def small_ranks():
    yield Ranks([])
    for line in itertools.islice(patterned_lines(3, "abc"), 0, None, 45):
        for classes in splits(line.askers()):
            yield Ranks(classes)
    yield from drawn_ranks(1001, 8, 4, "abc", 3)


class TheClass(ElderCase):
    def test_ranks(self):
        ranks = Ranks([[cat(), ann()], [bob()]])
        self.assertEqual([[asker.name for asker in some] for some in ranks.classes()], [["ann", "cat"], ["bob"]])
        self.assertEqual((ranks.line(), len(ranks)), (Line([ann(), cat(), bob()]), 2))
        self.assertEqual((Ranks([]).classes(), Ranks([]).line(), len(Ranks([]))), ([], Line([]), 0))
        self.assertEqual(Ranks(classes=[[ann()]]).classes(), [[ann()]])

    def test_equal(self):
        ranks = Ranks([[ann(), cat()], [bob()]])
        self.assertTrue(ranks == Ranks([[cat(), ann()], [bob()]]) and not ranks != Ranks([[cat(), ann()], [bob()]]))
        for other in ([[bob()], [ann(), cat()]], [[ann()], [cat()], [bob()]], [[ann(), cat(), bob()]], [[ann(), cat()]], [],
                      [[ann(), cat()], [Asker("bob", ["a"], 3)]], [[ann(), cat()], [bob()], [dan()]]):
            self.assertFalse(ranks == Ranks(other))
            self.assertTrue(ranks != Ranks(other))
        for value in [*strange(), [[ann(), cat()], [bob()]], ranks.line()]:
            self.assertFalse(ranks == value)
            self.assertFalse(value == ranks)
        self.assertTrue(Ranks([]) == Ranks([]))

    def test_wrong_classes(self):
        wrong = [[[]], [[ann()], []], [ann()], [[ann()], [ann()]], [[ann(), ann()]], [[ann(), Asker("ann", ["z"], 9)]],
                 ([ann()],), [(ann(),)], [[ann()], "bob"], [["ann"]], [[ann(), None]], {"a": [ann()]}, [{"a": ann()}],
                 Line([ann()]), [Line([ann()])], [[ann()], [bob()], [Asker("bob", ["c"], 1)]], [[[ann()]]], Ranks([]),
                 *[value for value in strange() if value != []], nested(40)]
        for value in wrong:
            self.refused(InvalidRanks, value, Ranks, value)

    def test_nothing_is_a_door(self):
        first, told = [ann(), cat()], []
        told.append(first)
        ranks = Ranks(told)
        first.pop()
        told.append([bob()])
        ranks.classes().append([bob()])
        ranks.classes()[0].reverse()
        self.assertEqual((ranks.classes(), len(ranks)), ([[ann(), cat()]], 1))


class Sums(ElderCase):
    def test_class_sums_and_span_by_deals_of_lines(self):
        for at, ranks in enumerate(small_ranks()):
            for stock in drawn_stocks(at, 3, "abcz", 4):
                deals = [dict(deal(line, stock)) for line in lines_of(ranks)]
                sums = class_sums(ranks, stock)
                for counts in deals:
                    self.assertEqual([sum(counts[asker.name] for asker in own) for own in ranks.classes()], sums)
                self.assertEqual(span(ranks, stock), [
                    (name, min(counts[name] for counts in deals), max(counts[name] for counts in deals))
                    for name in ranks.line().names()])

    def test_classes_of_one(self):
        for line in [Line([]), *drawn_lines(1002, 12, 6, "abcdef", 4)]:
            ranks = Ranks([[asker] for asker in line.askers()])
            for stock in drawn_stocks(1003, 3, "abcdefz", 5):
                counts = deal_of(line, stock)
                self.assertEqual(fair(ranks, stock), [(name, (count, 1)) for name, count in counts])
                self.assertEqual((even(ranks, stock), span(ranks, stock)), (counts, [(name, most, most) for name, most in counts]))
                self.assertEqual(blocks(ranks, stock), [[([name], (count, 1))] for name, count in counts])
                self.assertEqual((class_sums(ranks, stock), even_rows(ranks, stock)),
                                 ([count for _, count in counts], [[count] for _, count in counts]))

    def test_great_counts(self):
        for great in (BIG, HUGE):
            ranks = Ranks([[Asker("b", ["x"], great), Asker("a", ["x", "y"], great)], [Asker("c", ["y"], great)]])
            stock = {"x": great - 1, "y": great}
            self.assertEqual(class_sums(ranks, stock), [2 * great - 1, 0])
            self.assertEqual(span(ranks, stock), [("a", great, great), ("b", great - 1, great - 1), ("c", 0, 0)])


class Joined(ElderCase):
    def test_parted(self):
        for ranks in [*small_ranks(), *drawn_ranks(1004, 20, 7, "abcdefg", 3)]:
            found = parted(ranks)
            classes = []
            for own in ranks.classes():
                names = sorted({tuple(joined_of(ranks, asker.name)[1]) for asker in own})
                classes += [[ranks.line().asker(name) for name in lot] for lot in names]
            self.assertEqual(found, Ranks(classes))
            self.assertEqual(parted(found), found)

    def test_parted_shares_as_before(self):
        for at, ranks in enumerate([*small_ranks(), *drawn_ranks(1005, 10, 6, "abcdef", 3)]):
            found = parted(ranks)
            for stock in drawn_stocks(at, 3, "abcdef", 4):
                self.assertEqual(sorted(fair(found, stock)), sorted(fair(ranks, stock)))
                self.assertEqual(rows_of(ranks, even(found, stock)), even_rows(ranks, stock))

    def pairs(self):
        for line in [Line([]), *itertools.islice(patterned_lines(3, "abc"), 0, None, 34), line_of(["ab", "bc", "ca"], [1, 2, 2])]:
            ranks = [Ranks(classes) for classes in splits(line.askers())]
            yield from itertools.product(ranks, repeat=2)
        for line in drawn_lines(1006, 2, 4, "abcd", 2):
            ranks = [Ranks(classes) for classes in splits(line.askers())]
            yield from itertools.islice(itertools.product(ranks, repeat=2), 0, None, 17)

    def test_alike_and_parting(self):
        for one, other in self.pairs():
            names = one.line().names()
            same = all(joined_of(one, name) == joined_of(other, name) for name in names)
            self.assertIs(alike_ranks(one, other), same)
            found = parting_ranks(one, other)
            self.assertEqual(found is None, same)
            if same:
                for stock in drawn_stocks(1007, 2, "abcd", 3):
                    self.assertEqual(sorted(fair(one, stock)), sorted(fair(other, stock)))
                    for name in names:
                        self.assertIs(check_parting_ranks(one, other, (stock, name)), False)
            else:
                stock, name = found
                self.assertTrue(is_right_stock(stock) and 0 not in stock.values())
                self.assertNotEqual(dict(fair_of(one, stock))[name], dict(fair_of(other, stock))[name])
                self.assertIs(check_parting_ranks(one, other, found), True)
                self.assertIs(check_parting_ranks(other, one, found), True)

    def test_larger_ranks(self):
        parting = 0
        ranks = list(drawn_ranks(1008, 25, 8, "abcdef", 3))
        for one in ranks:
            names = one.line().names()
            for turn in (2, 3, 5):
                askers = [one.line().asker(name) for name in names[turn:] + names[:turn]]
                other = Ranks([askers[:turn], askers[turn:turn + 1], askers[turn + 1:]])
                found = parting_ranks(one, other)
                self.assertEqual(found is None, alike_ranks(one, other))
                if found is not None:
                    parting += 1
                    self.assertNotEqual(dict(fair_of(one, found[0]))[found[1]], dict(fair_of(other, found[0]))[found[1]])
        self.assertGreater(parting, 40)

    def test_alike_against_all_small_stocks(self):
        for line in (line_of(["ab", "a", "b"], [1, 1, 1]), line_of(["a", "b", "a"], [2, 1, 1]), line_of(["a", "b", "c"], [1, 2, 1])):
            ranks = [Ranks(classes) for classes in splits(line.askers())]
            told = [[sorted(fair_of(each, stock)) for stock in all_stocks("abc", 4)] for each in ranks]
            for (one, mine), (other, yours) in itertools.product(zip(ranks, told), repeat=2):
                self.assertIs(alike_ranks(one, other), mine == yours)

    def test_bent_partings(self):
        one, other = Ranks([[ann(), bob()], [cat()]]), Ranks([[cat(), bob()], [ann()]])
        found = parting_ranks(one, other)
        for value in [*bent(found), *spoiled(found)]:
            self.assertIn(check_parting_ranks(one, other, value), (True, False))
            if type(value) is not tuple or len(value) != 2 or not is_right_stock(value[0]) or value[1] not in ("ann", "bob", "cat"):
                self.assertIs(check_parting_ranks(one, other, value), False)
            else:
                right = dict(fair_of(one, value[0]))[value[1]] != dict(fair_of(other, value[0]))[value[1]]
                self.assertIs(check_parting_ranks(one, other, value), right)

    def test_great_mosts(self):
        for great in (BIG, HUGE):
            one = Ranks([[Asker("a", ["x"], great), Asker("b", ["x", "y"], great)], [Asker("c", ["y"], great)]])
            other = Ranks([[Asker("c", ["y"], great)], [Asker("a", ["x"], great), Asker("b", ["x", "y"], great)]])
            stock, name = parting_ranks(one, other)
            self.assertNotEqual(dict(fair(one, stock))[name], dict(fair(other, stock))[name])
            self.assertIs(check_parting_ranks(one, other, (stock, name)), True)
            self.assertIs(check_parting_ranks(one, other, ({**stock, "x": stock.get("x", 0) + 1}, name)), True)

    def test_unlike_askers(self):
        ranks = Ranks([[ann(), bob()]])
        for other in ([[ann()]], [], [[ann(), bob(), cat()]], [[ann(), Asker("bob", ["a"], 3)]], [[ann(), Asker("bob", ["b"], 2)]],
                      [[ann(), cat()]]):
            other = Ranks(other)
            for function in (alike_ranks, parting_ranks):
                self.refused(Unlike, other, function, ranks, other)
            self.refused(Unlike, other, check_parting_ranks, ranks, other, None)
        for value in strange_but(is_ranks):
            self.refused(InvalidRanks, value, alike_ranks, value, None)
            self.refused(InvalidRanks, value, parting_ranks, ranks, value)
            self.refused(InvalidRanks, value, check_parting_ranks, ranks, value, None)


class Harmed(ElderCase):
    def test_against_both_shares(self):
        for line in drawn_lines(1009, 6, 4, "abc", 3):
            ranks = [Ranks(classes) for classes in splits(line.askers())]
            for one, other in itertools.islice(itertools.product(ranks, repeat=2), 0, None, 211):
                for stock in drawn_stocks(1010, 2, "abcz", 4):
                    before, after = dict(fair_of(one, stock)), dict(fair_of(other, stock))
                    names = [name for name in sorted(before) if after[name][0] * before[name][1] < before[name][0] * after[name][1]]
                    self.assertEqual(harmed_shares(one, other, stock), names)

    def test_nobody_is_harmed(self):
        """[109]: by more bags, by one that leaves, asks for less, or steps back."""
        for at, ranks in enumerate(drawn_ranks(1011, 12, 5, "abcd", 3)):
            for stock in drawn_stocks(at, 2, "abcd", 4):
                for kind in "abcd":
                    more = {**stock, kind: stock[kind] + 1}
                    for (_, one), (_, other) in zip(fair(ranks, stock), fair(ranks, more)):
                        self.assertLessEqual(one[0] * other[1], other[0] * one[1])
                for asker in ranks.line().askers():
                    for other in self.further_back(ranks, asker):
                        self.assertIn(harmed_shares(ranks, other, stock), ([], [asker.name]))

    def further_back(self, ranks, asker):
        classes = [[each for each in own if each.name != asker.name] for own in ranks.classes()]
        place = [asker in own for own in ranks.classes()].index(True)
        yield Ranks([own for own in classes if own])
        if asker.most > 1:
            less = Asker(asker.name, asker.fits, asker.most - 1)
            yield Ranks([own + [less] if at == place else own for at, own in enumerate(classes)])
        yield Ranks([own for own in [*classes[:place + 1], [asker], *classes[place + 1:]] if own])
        for at in range(place + 1, len(classes)):
            yield Ranks([own for own in [*classes[:at], classes[at] + [asker], *classes[at + 1:]] if own])

    def test_other_askers(self):
        one = Ranks([[ann(), bob()], [cat()]])
        other = Ranks([[Asker("cat", ["z"], 1)], [Asker("bob", ["a"], 1), dan()]])
        self.assertEqual(harmed_shares(one, other, {"a": 4, "b": 2, "ab": 4}), ["bob", "cat"])
        self.assertEqual(harmed_shares(other, one, {"a": 4, "b": 2, "z": 1}), [])
        self.assertEqual([harmed_shares(one, Ranks([]), {"a": 4}), harmed_shares(Ranks([]), one, {"a": 4})], [[], []])

    def test_refused(self):
        ranks = Ranks([[ann()]])
        for value in [*strange_but(is_ranks), trio()]:
            self.refused(InvalidRanks, value, harmed_shares, value, None, None)
            self.refused(InvalidRanks, value, harmed_shares, ranks, value, None)
        for value in strange_but(is_right_stock):
            self.refused(InvalidStock, value, harmed_shares, ranks, ranks, value)

    def test_younger_classes_never_see_how_elder_ones_share(self):
        for ranks in drawn_ranks(1012, 15, 5, "abcd", 3):
            for stock in drawn_stocks(1013, 2, "abcd", 4):
                for line in itertools.islice(lines_of(ranks), 4):
                    alone = Ranks([[asker] for asker in line.askers()[:-len(ranks.classes()[-1])]] + ranks.classes()[-1:])
                    last = [asker.name for asker in ranks.classes()[-1]]
                    told = dict(fair(ranks, stock))
                    self.assertEqual([dict(fair(alone, stock))[name] for name in last], [told[name] for name in last])
        self.assertEqual(repr_of(Ranks([[ann()]]).line()), repr_of(Line([ann()])))
