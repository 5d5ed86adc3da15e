"""[164]: scripts that come to the same end, against playing on all small stocks."""

import itertools
import random

from elderlink.errors import InvalidLine, InvalidScript
from elderlink.house import Asker, Line
from elderlink.live import House
from elderlink.scripts import parting_stock, play, same_end, trimmed
from tests.samples import BIG, ElderCase, HUGE, ann, bob, cat, is_line, is_right_stock, repr_of, spoiled, strange, strange_but, trio
from tests.scripting import deals_of, drawn_script, gives, is_right_script, lost_by
from tests.ways import all_stocks, drawn_lines, line_of

WORDS = ["bring", "lose", "join", "leave", "move", "order", "undo", "redo", "deal", "short", "try", "undo"]
PAIR = Line([ann(), bob()])


def end_of(line, stock, script):
    """What is told apart of the house in which a script was played."""
    house = House(line, stock)
    play(house, script)
    return (house.stock(), deals_of(house.line()))


def partings(line, one, other, most=3):
    """All small stocks, fewest bags first, with which two scripts come to unlike ends."""
    for stock in sorted(all_stocks("abcz", most), key=lambda each: sum(each.values())):
        if end_of(line, stock, one) != end_of(line, stock, other):
            yield stock


def few_lost(script):
    return sum(lost_by(script, kind) for kind in "abcz") <= 3


def pairs():
    """Pairs of scripts, some of them much alike."""
    for at in range(70):
        draw = random.Random(1700 + at)
        line = [line_of(["ab", "b", "a"], [2, 1, 2]), line_of(["a", "b"], [1, 2]), trio(), line_of(["a", "b", "c", "bc"], [1, 1, 1, 2])][at % 4]
        one = drawn_script(draw, draw.randint(0, 5), 2, WORDS)
        other = [command for command in one if draw.randint(0, 4)]
        if at % 3 == 0:
            other = drawn_script(draw, draw.randint(0, 3), 2, WORDS)
        if at % 3 == 1:
            draw.shuffle(other)
        if few_lost(one + other):
            yield line, one, other


class SameEnds(ElderCase):
    def test_against_all_small_stocks(self):
        numbers = []
        for line, one, other in pairs():
            kept = repr_of((line, one, other))
            stock = next(partings(line, one, other, 2), None)
            found = parting_stock(line, one, other)
            self.assertIs(same_end(line, one, other), found is None)
            if found is not None:
                numbers.append(sum(found.values()))
                self.assertTrue(is_right_stock(found) and 0 not in found.values())
                self.assertNotEqual(end_of(line, found, one), end_of(line, found, other))
                self.assertIsNotNone(stock)
                self.assertLessEqual(sum(found.values()), sum(stock.values()))
            else:
                numbers.append(None)
                self.assertIsNone(stock)
            self.assertEqual(repr_of((line, one, other)), kept)
        self.assertTrue(numbers.count(None) > 10 and numbers.count(0) > 10)

    def test_stocks_with_bags(self):
        lose = [("lose", "a", 1)]
        for one, other, stock in (
            (lose, [], {"a": 1}), ([("lose", "a", 3)], [], {"a": 3}), ([("lose", "a", 2)], lose, {"a": 1}),
            (lose * 2, lose, {"a": 2}), (lose * 3, lose * 2, {"a": 3}), ([("lose", "a", 1), ("lose", "b", 1)], [], {"a": 1}),
            ([("lose", "a", 1), ("undo",)], [], None), ([("bring", "b", 1), ("lose", "a", 1), ("undo",)], [("bring", "b", 1)], {}),
            ([("lose", "a", 2), ("undo",), ("bring", "b", 0)], [], None), ([("bring", "q", 1), ("lose", "a", 2), ("undo",)], [], {"a": 2}),
            ([("try", lose * 3), ("redo",)], [], None), ([("leave", "ann"), ("lose", "b", 2), ("undo",)], [], {"b": 2}),
            ([("try", [("bring", "a", 1)])], [("deal",), ("stock",), ("short", "ann")], None), (lose, [("lose", "a", 0)], {"a": 1}),
        ):
            found = parting_stock(PAIR, one, other)
            self.assertIs(same_end(PAIR, one, other), stock is None, (one, other))
            if stock is None:
                self.assertIsNone(found)
            else:
                self.assertEqual(sum(found.values()), sum(stock.values()))
                self.assertNotEqual(end_of(PAIR, found, one), end_of(PAIR, found, other))
        # Two bags of one kind part them, too, but one of the other kind is fewer, whichever kind comes first.
        for one, other in (("a", "b"), ("b", "a")):
            self.assertEqual(parting_stock(PAIR, [("lose", one, 2)], [("lose", other, 1)]), {other: 1})
            self.assertEqual(parting_stock(PAIR, [("lose", other, 1)], [("lose", one, 2)]), {other: 1})
        both = [("leave", "bob"), ("lose", "a", 1), ("lose", "b", 1), ("undo",), ("undo",), ("undo",)]
        self.assertEqual(parting_stock(PAIR, both, [("leave", "bob"), ("undo",)]), None)

    def test_lines_that_deal_alike(self):
        line = line_of(["a", "b", "ab"], [1, 2, 1])
        for names in itertools.permutations(line.names()):
            there = deals_of(line) == deals_of(line.ordered(list(names)))
            self.assertIs(same_end(line, [("order", list(names))], []), there)
        self.assertIs(same_end(line, [("leave", "m"), ("join", Asker("m", ["a"], 1), 1)], []), True)
        self.assertIs(same_end(line, [("leave", "m"), ("join", Asker("m", ["a"], 1), None)], []), False)
        self.assertIs(same_end(line, [("leave", "m"), ("join", Asker("m", ["a"], 2), 0)], []), False)
        self.assertIs(same_end(line, [("leave", "x")], [("leave", "x"), ("move", "m", 1)]), True)
        self.assertIs(same_end(line, [("leave", "x")], [("leave", "m")]), False)
        self.assertIs(same_end(Line([]), [], [("order", [])]), True)

    def test_as_few_bags_as_any(self):
        numbers = set()
        for at in range(120):
            draw = random.Random(1800 + at)
            kinds = draw.choice(["aab", "abc", "aaa", "abb"])
            one = [("lose", kind, 1) for kind in kinds[:draw.randint(1, 3)]] + draw.sample([("undo",), ("undo",), ("bring", "b", 1)], 2)
            other = draw.sample([("undo",), ("bring", "b", 1), ("redo",), ("leave", "ann")], 1) + one[1:]
            if not few_lost(one + other):
                other = one[-1:]
            stock = next(partings(PAIR, one, other), None)
            found = parting_stock(PAIR, one, other)
            self.assertEqual(found is None, stock is None, (one, other))
            if found is not None:
                numbers.add(sum(found.values()))
                self.assertEqual(sum(found.values()), sum(stock.values()))
        self.assertTrue({0, 1, 2} <= numbers)

    def test_great_counts(self):
        for great in (BIG, HUGE):
            more = [("bring", "a", great), ("join", Asker("zoe", ["a"], great), 0)]
            self.assertIs(same_end(PAIR, more + [("undo",), ("undo",)], []), True)
            self.assertEqual(parting_stock(PAIR, more, more[:1]), {})
            self.assertEqual(trimmed(PAIR, more + [("deal",), ("leave", "zoe"), ("undo",)]),
                             more + [("leave", "zoe"), ("undo",)])


class Trimmed(ElderCase):
    def test_by_leaving_out(self):
        shorter = 0
        for line, script, other in pairs():
            for told in (script, other):
                kept = repr_of(told)
                found = trimmed(line, told)
                expected = list(told)
                for at in range(len(told) - 1, -1, -1):
                    without = expected[:at] + expected[at + 1:]
                    if next(partings(line, told, without, 2), None) is None:
                        expected = without
                shorter += len(expected) < len(told)
                self.assertEqual(repr_of(found), repr_of(expected))
                self.assertIs(same_end(line, told, found), True)
                self.assertEqual(repr_of(told), kept)
        self.assertGreater(shorter, 40)

    def test_from_the_last_one_on(self):
        twice = [("order", ["bob", "ann"]), ("move", "bob", 0), ("order", ["bob", "ann"])]
        self.assertEqual(trimmed(PAIR, twice), twice[:1])
        self.assertEqual(trimmed(PAIR, [("bring", "a", 1), ("undo",), ("bring", "b", 2), ("try", [("leave", "ann")]), ("redo",)]),
                         [("undo",), ("bring", "b", 2)])
        self.assertEqual(trimmed(PAIR, [("bring", "a", 1), ("lose", "a", 1), ("short", "zoe"), ("leave", "zoe")]),
                         [("bring", "a", 1), ("lose", "a", 1)])
        # Those within a try are not gone through: only all of it is left out.
        told = [("lose", "a", 1), ("try", [("deal",)]), ("undo",), ("redo",)]
        self.assertEqual(trimmed(PAIR, told), [("lose", "a", 1), ("redo",)])
        self.assertEqual((trimmed(PAIR, []), trimmed(Line([]), [("deal",)])), ([], []))

    def test_nothing_is_a_door(self):
        script = [("order", ["bob", "ann"]), ("deal",)]
        found = trimmed(PAIR, script)
        found[0][1].clear()
        self.assertEqual((script, trimmed(PAIR, script)), ([("order", ["bob", "ann"]), ("deal",)], [("order", ["bob", "ann"])]))
        stock = parting_stock(PAIR, [("lose", "a", 1)], [])
        stock.clear()
        self.assertEqual(parting_stock(PAIR, [("lose", "a", 1)], []), {"a": 1})


class Refused(ElderCase):
    def wrong(self):
        yield from ([("give",)], [("deal",), ("give",)], [("try", [("give",)])], [("try", [("try", [("deal",), ("give",)])])],
                    [("bring", "a", -1)], (("deal",),), [["deal"]], [("try", [None])])
        yield from [value for value in strange() if value != []]
        for value in spoiled([("try", [("lose", "a", 1)])]):
            if not is_right_script(value) or gives(value):
                yield value

    def test_no_scripts(self):
        good = [("lose", "a", 1)]
        for value in self.wrong():
            for function in (same_end, parting_stock):
                self.refused(InvalidScript, value, function, trio(), value, None)
                self.refused(InvalidScript, value, function, trio(), good, value)
                self.refused(InvalidScript, value, function, other=value, one=good, line=trio())
            self.refused(InvalidScript, value, trimmed, trio(), value)

    def test_the_line_comes_first(self):
        for value in strange_but(is_line):
            for function in (same_end, parting_stock):
                self.refused(InvalidLine, value, function, value, None, None)
            self.refused(InvalidLine, value, trimmed, value, [("give",)])

    def test_larger_lines(self):
        for line in drawn_lines(1709, 10, 8, "abcdef", 4):
            script = [("lose", "a", 1), ("lose", "b", 1), ("lose", "c", 1), ("move", "m", 7), ("bring", "a", 1), ("undo",),
                      ("join", cat(), 3), ("deal",)]
            found = trimmed(line, script)
            self.assertTrue(same_end(line, script, found))
            self.assertFalse(("deal",) in found)
            self.assertTrue(("join", cat(), 3) in found)
