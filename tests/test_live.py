"""[150] to [153], [155]: houses, against one of lists kept beside, and against houses that deal alike."""

import itertools
import random

from elderlink.deals import left
from elderlink.errors import InvalidAsker, InvalidCount, InvalidKind, InvalidLine, InvalidNames, InvalidStock, NotEnough
from elderlink.errors import NothingToRedo, NothingToUndo, TakenName, UnknownName
from elderlink.house import Asker, Line
from elderlink.live import House
from elderlink.orders import alike, normal, parting
from tests.samples import BIG, ElderCase, HUGE, ann, bob, dan, is_asker, is_line, is_right_count, is_right_name
from tests.samples import is_right_names, is_right_stock, repr_of, strange_but, trio
from tests.ways import deal_of, drawn_lines, line_of

NEW = [Asker("new", ["a"], 2), Asker("old", ["b", "c"], 1), Asker("zoe", ["z"], 3), Asker("ida", ["a", "b"], 4)]


class Lists:
    """A house kept by hand: a list of askers, a dictionary of bags, and a dictionary of what was given."""

    def __init__(self, line, stock):
        self.askers, self.bags, self.out = line.askers(), dict(stock), {}

    def line(self):
        return Line(self.askers)

    def stock(self):
        return {kind: count for kind, count in self.bags.items() if count}

    def deal(self):
        return deal_of(self.line(), self.bags)

    def given(self):
        return sorted(pair for pair in self.out.items() if pair[1])

    def rows(self, before):
        after = dict(self.deal())
        names = sorted({*before, *after})
        return [(name, before.get(name, 0), after.get(name, 0)) for name in names if before.get(name, 0) != after.get(name, 0)]

    def take_out(self, name):
        asker = [asker for asker in self.askers if asker.name == name][0]
        self.askers = [other for other in self.askers if other.name != name]
        return asker

    def call(self, word, *parts):
        before = dict(self.deal())
        if word == "give":
            self.give(before)
            return list(before.items())
        if word == "bring":
            self.bags[parts[0]] = self.bags.get(parts[0], 0) + parts[1]
        if word == "lose":
            self.bags[parts[0]] = self.bags.get(parts[0], 0) - parts[1]
        if word == "join":
            at = parts[1] if len(parts) > 1 and parts[1] is not None else len(self.askers)
            self.askers = self.askers[:at] + [parts[0]] + self.askers[at:]
        if word == "leave":
            self.take_out(parts[0])
        if word == "move":
            asker = self.take_out(parts[0])
            self.askers = self.askers[:parts[1]] + [asker] + self.askers[parts[1]:]
        if word == "order":
            self.askers = [asker for name in parts[0] for asker in self.askers if asker.name == name]
        return self.rows(before)

    def give(self, counts):
        self.bags = left(self.line(), self.bags, list(counts.items()))
        rest = []
        for asker in self.askers:
            count = counts[asker.name]
            self.out[asker.name] = self.out.get(asker.name, 0) + count
            if count < asker.most:
                rest.append(Asker(asker.name, asker.fits, asker.most - count))
        self.askers = rest


def drawn_call(draw, house):
    """A call that a house does not refuse."""
    names, stock = house.line().names(), house.stock()
    words = ["bring", "bring", "give"]
    words += ["lose"] * (len(stock) > 0) + ["join"] * (2 * (len(names) < 6)) + ["leave", "move", "order"] * (len(names) > 0)
    word = draw.choice(words)
    if word == "bring":
        return (word, draw.choice("abcz"), draw.randint(0, 4))
    if word == "lose":
        kind = draw.choice(sorted(stock))
        return (word, kind, draw.randint(0, stock[kind]))
    if word == "join":
        asker = draw.choice([asker for asker in NEW + house.line().askers() + [ann(), bob()] if asker.name not in names] or [dan()])
        return (word, asker, *draw.choice([(), (None,), (draw.randint(0, len(names)),)]))
    if word == "leave":
        return (word, draw.choice(names))
    if word == "move":
        return (word, draw.choice(names), draw.randint(0, len(names) - 1))
    return (word,) if word == "give" else (word, draw.sample(names, len(names)))


def called(house, call):
    return getattr(house, call[0])(*call[1:])


class BesideLists(ElderCase):
    def test_every_method(self):
        words = {}
        for seed, line in enumerate([Line([]), *drawn_lines(1501, 40, 4, "abc", 3)]):
            draw = random.Random(seed)
            stock = {kind: draw.randint(0, 4) for kind in "abcz"}
            house, lists = House(line, stock), Lists(line, stock)
            self.same(house, lists)
            for _ in range(25):
                call = drawn_call(draw, house)
                words[call[0]] = words.get(call[0], 0) + 1
                self.assertEqual(repr_of(called(house, call)), repr_of(lists.call(*call)), call)
                self.same(house, lists)
        self.assertTrue(all(words[word] > 40 for word in ("bring", "lose", "join", "leave", "move", "order", "give")))

    def same(self, house, lists):
        self.assertEqual((house.line(), house.stock(), house.deal()), (lists.line(), lists.stock(), lists.deal()))
        self.assertEqual((len(house), house.given()), (len(lists.askers), lists.given()))

    def test_a_new_house(self):
        house = House(trio(), {"a": 2, "b": 0})
        self.assertEqual((house.line(), house.stock(), len(house), house.given(), house.log()), (trio(), {"a": 2}, 3, [], []))
        self.assertEqual(house.deal(), [("ann", 2), ("bob", 0), ("cat", 0)])
        self.assertEqual(repr_of(House(stock={"a": 1}, line=Line([]))), repr_of(House(Line([]), {"a": 1})))

    def test_rows(self):
        house = House(trio(), {"a": 1})
        self.assertEqual(house.bring("a", 0), [])
        self.assertEqual(house.bring("zz", 5), [])
        self.assertEqual(house.bring("a", 3), [("ann", 1, 3), ("bob", 0, 1)])
        self.assertEqual(house.lose("a", 0), [])
        self.assertEqual(house.leave("ann"), [("ann", 3, 0), ("bob", 1, 2)])
        self.assertEqual(house.join(Asker("ann", ["a"], 9)), [("ann", 0, 2)])
        self.assertEqual(house.leave("cat"), [])
        self.assertEqual(house.join(asker=Asker("aaa", ["a"], 1), at=0), [("aaa", 0, 1), ("ann", 2, 1)])
        self.assertEqual(house.move(at=2, name="aaa"), [("aaa", 1, 0), ("ann", 1, 2)])
        self.assertEqual(house.order(["ann", "aaa", "bob"]), [("ann", 2, 4), ("bob", 2, 0)])
        self.assertEqual(house.lose(count=4, kind="a"), [("ann", 4, 0)])
        self.assertEqual(house.order(["bob", "ann", "aaa"]), [])

    def test_places(self):
        for at, names in ((0, ["dan", "ann", "bob", "cat"]), (2, ["ann", "bob", "dan", "cat"]), (3, ["ann", "bob", "cat", "dan"]),
                          (None, ["ann", "bob", "cat", "dan"])):
            house = House(trio(), {})
            self.assertEqual((house.join(dan(), at), house.line().names()), ([], names))
        for at, names in ((0, ["bob", "ann", "cat"]), (1, ["ann", "bob", "cat"]), (2, ["ann", "cat", "bob"])):
            house = House(trio(), {})
            house.move("bob", at)
            self.assertEqual(house.line().names(), names)

    def test_an_asker_that_joins_again(self):
        house = House(Line([Asker("p", ["a"], 2), Asker("q", ["a"], 1)]), {"a": 2})
        self.assertEqual((house.give(), house.line().names(), house.given()), ([("p", 2), ("q", 0)], ["q"], [("p", 2)]))
        self.assertEqual(house.join(Asker("p", ["a", "b"], 5), 0), [])
        self.assertEqual(house.bring("b", 3), [("p", 0, 3)])
        self.assertEqual((house.give(), house.line().asker("p").most, house.given()), ([("p", 3), ("q", 0)], 2, [("p", 5)]))
        self.assertEqual((house.bring("a", 3), house.give(), house.given()), ([("p", 0, 2), ("q", 0, 1)], [("p", 2), ("q", 1)], [("p", 7), ("q", 1)]))
        self.assertEqual((len(house), house.stock(), house.deal()), (0, {}, []))

    def test_giving_out_to_nobody(self):
        house = House(trio(), {"z": 3})
        self.assertEqual(house.give(), [("ann", 0), ("bob", 0), ("cat", 0)])
        self.assertEqual((house.log(), house.line(), house.stock(), house.given()), ([("give",)], trio(), {"z": 3}, []))
        empty = House(Line([]), {"a": 1})
        self.assertEqual((empty.give(), empty.log(), empty.stock()), ([], [("give",)], {"a": 1}))

    def test_what_is_left(self):
        """[153]: as much as can be of the first kinds is left."""
        house = House(line_of(["ab", "b"], [1, 1]), {"a": 1, "b": 2})
        self.assertEqual((house.give(), house.stock(), len(house)), ([("m", 1), ("c", 1)], {"a": 1}, 0))

    def test_great_counts(self):
        for great in (BIG, HUGE):
            house = House(line_of(["ab", "b"], [great, great]), {"a": great})
            self.assertEqual(house.bring("b", great + 1), [("c", 0, great)])
            self.assertEqual((house.lose("a", great - 1), house.give()), ([("c", great, 2)], [("m", great), ("c", 2)]))
            self.assertEqual((house.line().asker("c").most, house.stock()), (great - 2, {}))


class Refused(ElderCase):
    def unchanged(self, error, value, house, method, *told, **named):
        kept = repr_of([house, house.line(), house.stock(), house.log(), house.given()])
        self.refused(error, value, getattr(house, method), *told, **named)
        self.assertEqual(repr_of([house, house.line(), house.stock(), house.log(), house.given()]), kept)

    def house(self):
        house = House(trio(), {"a": 3})
        house.bring("a", 2)
        house.give()
        house.bring("b", 1)
        house.undo()
        house.join(ann())
        return house

    def test_houses(self):
        for value in strange_but(is_line):
            self.refused(InvalidLine, value, House, value, None)
        for value in strange_but(is_right_stock):
            self.refused(InvalidStock, value, House, trio(), value)
            self.refused(InvalidStock, value, House, stock=value, line=Line([]))

    def test_bags(self):
        house = self.house()
        for method in ("bring", "lose"):
            for value in strange_but(is_right_name):
                for count in (None, 1, -1, 99):
                    self.unchanged(InvalidKind, value, house, method, value, count)
            for value in strange_but(is_right_count):
                self.unchanged(InvalidCount, value, house, method, "zzz", value)
                self.unchanged(InvalidCount, value, house, method, count=value, kind="a")
        for kind, count in (("a", 1), ("zzz", 1), ("b", BIG)):
            self.unchanged(NotEnough, kind, house, "lose", kind, count)
        self.assertEqual((house.lose("a", 0), house.lose("zzz", 0)), ([], []))

    def test_askers(self):
        house = self.house()
        names = house.line().names()
        for value in strange_but(is_asker):
            for at in (None, 0, -1, 99):
                self.unchanged(InvalidAsker, value, house, "join", value, at)
        for name in names:
            taken = Asker(name, ["z"], 7)
            for at in (None, 0, 99, "x"):
                self.unchanged(TakenName, taken.name, house, "join", taken, at)
        for value in [value for value in strange_but(lambda value: is_right_count(value) and value <= len(names)) if value is not None]:
            self.unchanged(InvalidCount, value, house, "join", dan(), value)
        self.unchanged(InvalidCount, len(names) + 1, house, "join", at=len(names) + 1, asker=dan())
        for value in [*strange_but(lambda value: type(value) is str and value in names), "bob", "zoe"]:
            self.unchanged(UnknownName, value, house, "leave", value)
            self.unchanged(UnknownName, value, house, "move", value, None)
        for value in strange_but(lambda value: is_right_count(value) and value < len(names)) + [len(names)]:
            self.unchanged(InvalidCount, value, house, "move", names[0], value)

    def test_orders(self):
        house = self.house()
        names = house.line().names()
        right = [list(each) for each in itertools.permutations(names)]
        for value in [*strange_but(lambda value: is_right_names(value) and value in right), names[:1], names + ["zoe"], tuple(names),
                      names[:-1] + names[:1], {name: 1 for name in names}, names + names]:
            self.unchanged(InvalidNames, value, house, "order", value)
        empty = House(Line([]), {})
        self.assertEqual((empty.order([]), empty.log()), ([], [("order", [])]))
        self.unchanged(InvalidNames, (), empty, "order", ())


class Doors(ElderCase):
    def test_what_is_handed_in(self):
        stock, names = {"a": 3}, ["cat", "ann", "bob"]
        house = House(trio(), stock)
        house.order(names)
        stock["a"], stock["b"] = 9, 9
        names.reverse()
        self.assertEqual((house.stock(), house.line().names(), house.log()), ({"a": 3}, ["cat", "ann", "bob"], [("order", ["cat", "ann", "bob"])]))
        house.undo()
        house.redo()
        self.assertEqual(house.line().names(), ["cat", "ann", "bob"])

    def test_what_is_handed_out(self):
        house = House(trio(), {"a": 5})
        house.order(["cat", "ann", "bob"])
        house.give()
        house.join(dan(), 0)
        kept = repr_of([house, house.stock(), house.deal(), house.given(), house.log()])
        for found in (house.stock(), house.deal(), house.given(), house.log(), house.line().askers(), house.log()[0][1]):
            found.clear()
        house.stock()["a"] = 7
        house.log()[0][1].append("zoe")
        self.assertEqual(repr_of([house, house.stock(), house.deal(), house.given(), house.log()]), kept)
        rows = house.bring("a", 1)
        rows.append(None)
        self.assertEqual(house.bring("a", 0), [])


class AlikeHouses(ElderCase):
    """[155]: no history tells two orders apart that deal alike."""

    def test_through_the_same_calls(self):
        seen = {"give": 0, "order": 0, "leave": 0, "undo": 0}
        for seed, line in enumerate(drawn_lines(1502, 60, 5, "abcd", 3)):
            draw = random.Random(seed)
            others = [line.ordered(draw.sample(line.names(), 5)) for _ in range(30)]
            others = [normal(line)] + [other for other in others if alike(line, other)]
            stock = {kind: draw.randint(0, 4) for kind in "abcd"}
            one, other = House(line, stock), House(draw.choice(others), stock)
            for _ in range(20):
                self.step(draw, one, other, seen)
                self.assertEqual(one.stock(), other.stock())
                self.assertTrue(alike(one.line(), other.line()))
                self.assertEqual((dict(one.deal()), one.given()), (dict(other.deal()), other.given()))
        self.assertTrue(all(seen[word] > 20 for word in seen), seen)

    def step(self, draw, one, other, seen):
        word = draw.choice(["undo", "redo", "call", "call", "call"])
        if word == "call":
            call = drawn_call(draw, one)
            while call[0] == "move" or call[0] == "join" and len(call) > 2:
                call = drawn_call(draw, one)
            theirs = ("order", normal(one.line().ordered(call[1])).names()) if call[0] == "order" else call
            seen[call[0]] = seen.get(call[0], 0) + 1
            self.assertEqual(sorted(called(one, call)), sorted(called(other, theirs)))
        else:
            seen[word] = seen.get(word, 0) + self.done(one, word)
            self.done(other, word)

    def done(self, house, word):
        """Whether there is something to undo or to redo."""
        try:
            self.assertIsNone(called(house, (word,)))
        except (NothingToUndo, NothingToRedo):
            return False
        return True

    def test_others_are_told_apart(self):
        for line in drawn_lines(1503, 30, 5, "abcd", 3):
            for turn in range(1, 5):
                other = line.ordered(line.names()[turn:] + line.names()[:turn])
                if not alike(line, other):
                    stock, name = parting(line, other)
                    one, two = House(line, {}), House(other, {})
                    for kind, count in stock.items():
                        one.bring(kind, count)
                        two.bring(kind, count)
                    self.assertNotEqual(dict(one.deal())[name], dict(two.deal())[name])
