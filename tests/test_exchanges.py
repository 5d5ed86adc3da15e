"""[34]: kinds put together, and kinds and names exchanged."""

import itertools

from elderlink.errors import InvalidLine, InvalidNames, InvalidStock
from elderlink.house import Asker, Line, folded, recalled, renamed, total
from tests.samples import BIG, ElderCase, HUGE, ann, bob, cat, is_asker, is_line, is_right_name, is_right_stock
from tests.samples import repr_of, strange_but, trio

ROW = {"a": "b", "b": "c", "c": "a"}
SWAP = {"a": "b", "b": "a"}


def is_right_exchange(value):
    if type(value) is not dict or not all(is_right_name(key) and is_right_name(value[key]) for key in value):
        return False
    return sorted(value) == sorted(value.values())


BAD_EXCHANGES = strange_but(is_right_exchange) + [
    {"a": "b"}, {"a": "b", "b": "b"}, {"a": "b", "b": "c"}, {"a": "a", "b": "a"}, {"a": "b", "b": "a", "c": "a"},
    {"a": ["b"], "b": "a"}, {"a": None, "b": "a"}, {"A": "b", "b": "A"}, {"": "b", "b": ""}, {1: "a", "a": 1},
    {None: None}, {True: True}, {1: "a", "a": "b"}, {("a",): "a", "b": "b"}, {"a": ("a",)}, [("a", "b"), ("b", "a")], (("a", "a"),),
]


class Folded(ElderCase):
    def lines(self):
        """Lines of up to three askers over the kinds a, b and c."""
        lots = [list(lot) for many in range(1, 4) for lot in itertools.combinations("cba", many)]
        for many in range(4):
            for fits in itertools.product(lots, repeat=many):
                yield Line([Asker(name, lot, at + 1) for at, (name, lot) in enumerate(zip(["x", "w", "y"], fits))])

    def who(self, line, kind):
        return [asker.name for asker in line.askers() if kind in asker.fits]

    def test_by_the_words_of_the_point(self):
        stock = {"c": 4, "a": 1, "b": 0, "z": 9}
        for line in self.lines():
            other, counts = folded(line, stock)
            self.assertEqual(other.names(), line.names())
            self.assertEqual([asker.most for asker in other.askers()], [asker.most for asker in line.askers()])
            for kind in "abcz":
                alike = [near for near in "abcz" if self.who(line, near) == self.who(line, kind)]
                told = kind == min(alike) and self.who(line, kind) != []
                self.assertEqual(self.who(other, kind), self.who(line, kind) if told else [])
                self.assertEqual(counts.get(kind, 0), sum(stock[near] for near in alike) if told else 0)
            self.assertNotIn(0, counts.values())

    def test_kinds_of_which_there_are_no_bags(self):
        line = Line([Asker("x", ["b", "a"], 2), Asker("y", ["c"], 1)])
        self.assertEqual(folded(line, {}), (Line([Asker("x", ["a"], 2), Asker("y", ["c"], 1)]), {}))
        self.assertEqual(folded(line, {"b": 2, "a": 0})[1], {"a": 2})
        self.assertEqual(folded(stock={"c": 1}, line=line)[1], {"c": 1})

    def test_kinds_that_fit_nobody(self):
        self.assertEqual(folded(Line([]), {"a": 3}), (Line([]), {}))
        self.assertEqual(folded(trio(), {"d": 3, "z": 1}), (trio().changed(Asker("cat", ["ab", "b"], 4)), {}))

    def test_long_counts(self):
        line = Line([Asker("x", ["b", "a"], HUGE)])
        self.assertEqual(folded(line, {"a": BIG, "b": BIG}), (Line([Asker("x", ["a"], HUGE)]), {"a": 2 * BIG}))

    def test_result(self):
        line, stock = trio(), {"b": 1, "c": 2, "ab": 4, "z": 9}
        kept = dict(stock)
        result = folded(line, stock)
        self.assertIs(type(result), tuple)
        result[1].clear()
        self.assertEqual((line, stock), (trio(), kept))
        self.assertEqual(folded(line, stock)[1], {"ab": 4, "b": 3})
        self.assertEqual(folded(*folded(line, stock)), folded(line, stock))

    def test_refused(self):
        for value in strange_but(is_line):
            with self.subTest(value=repr_of(value)):
                self.refused(InvalidLine, value, folded, value, {})
                self.refused(InvalidLine, value, folded, value, None)
        for value in strange_but(is_right_stock):
            with self.subTest(value=repr_of(value)):
                self.refused(InvalidStock, value, folded, trio(), value)
                self.refused(InvalidStock, value, folded, Line([]), value)


class Renamed(ElderCase):
    def test_askers(self):
        self.assertEqual(renamed(bob(), SWAP), Asker("bob", ["b"], 2))
        self.assertEqual(renamed(cat(), ROW), Asker("cat", ["c", "ab", "a"], 4))
        self.assertEqual(renamed(Asker("a", ["a", "b", "c"], 1), ROW), Asker("a", ["a", "b", "c"], 1))
        self.assertEqual(renamed(bob(), {"a": "z", "z": "a"}).fits, ["z"])
        self.assertEqual(renamed(names=SWAP, thing=ann()), Asker("ann", ["b", "ab"], 3))
        self.assertEqual(renamed(Asker("x", ["a", "d"], 1), {"a": "z", "z": "a"}).fits, ["d", "z"])

    def test_lines(self):
        self.assertEqual(renamed(trio(), ROW), Line([renamed(asker, ROW) for asker in (ann(), bob(), cat())]))
        self.assertEqual(renamed(Line([Asker("a", ["a"], 1), Asker("b", ["c"], 2)]), SWAP).names(), ["a", "b"])
        self.assertEqual(renamed(Line([]), SWAP), Line([]))

    def test_stocks(self):
        self.assertEqual(renamed({"a": 1, "b": 2, "c": 3, "d": 4}, ROW), {"b": 1, "c": 2, "a": 3, "d": 4})
        self.assertEqual(renamed({"a": 1, "b": 0}, SWAP), {"b": 1})
        self.assertEqual(renamed({"a": 0}, {}), {})
        self.assertEqual(renamed({}, SWAP), {})
        self.assertEqual(renamed({"a": HUGE}, {"a": "z", "z": "a"}), {"z": HUGE})

    def test_names_that_are_no_kinds_of_the_thing(self):
        far = {"x": "y", "y": "x", "k": "k"}
        for thing in (ann(), trio(), Line([]), {"a": 1}, {}):
            for names in ({}, far, {"a": "a"}):
                self.assertEqual(renamed(thing, names), thing)

    def test_back_again(self):
        back = {new: old for old, new in ROW.items()}
        for thing in (ann(), cat(), trio(), {"a": 5, "c": 1, "z": 2}):
            self.assertEqual(renamed(renamed(thing, ROW), back), thing)
            self.assertEqual(renamed(renamed(renamed(thing, ROW), ROW), ROW), thing)

    def test_what_comes_out_can_go_on(self):
        line = renamed(trio(), ROW)
        self.assertEqual(line.kinds(), ["a", "ab", "b", "c"])
        self.assertEqual(Line(line.askers()), line)
        self.assertEqual(Asker(*[getattr(line.asker("cat"), part) for part in ("name", "fits", "most")]), line.asker("cat"))
        self.assertEqual(total(renamed({"a": 5, "c": 1}, ROW)), 6)

    def test_no_things(self):
        def right(value):
            return is_asker(value) or is_line(value) or is_right_stock(value)

        for value in strange_but(right):
            with self.subTest(value=repr_of(value)):
                self.refused(InvalidStock, value, renamed, value, SWAP)
                self.refused(InvalidStock, value, renamed, value, None)

    def test_no_exchanges(self):
        for value in BAD_EXCHANGES:
            with self.subTest(value=repr_of(value)):
                for thing in (ann(), trio(), Line([]), {"a": 1}, {}):
                    self.refused(InvalidNames, value, renamed, thing, value)

    def test_arguments_stay(self):
        stock, names = {"a": 1, "b": 0}, dict(SWAP)
        renamed(stock, names)["z"] = 3
        line = renamed(trio(), names)
        names.clear()
        self.assertEqual(stock, {"a": 1, "b": 0})
        self.assertEqual(line, renamed(trio(), SWAP))
        self.assertIsNot(renamed(stock, {}), stock)


class Recalled(ElderCase):
    def test_exchanges(self):
        line = trio()
        self.assertEqual(
            recalled(line, {"ann": "bob", "bob": "ann"}),
            Line([Asker("bob", ["ab", "a"], 3), Asker("ann", ["a"], 2), cat()]),
        )
        row = {"ann": "bob", "bob": "cat", "cat": "ann"}
        self.assertEqual(recalled(names=row, line=line).names(), ["bob", "cat", "ann"])
        self.assertEqual([asker.fits for asker in recalled(line, row).askers()], [ann().fits, bob().fits, cat().fits])
        self.assertEqual(recalled(line, {"ann": "zoe", "zoe": "ann"}).names(), ["zoe", "bob", "cat"])
        self.assertEqual(line, trio())

    def test_kinds_stay(self):
        line = Line([Asker("a", ["a", "b"], 1), Asker("b", ["a"], 2)])
        self.assertEqual(recalled(line, SWAP), Line([Asker("b", ["a", "b"], 1), Asker("a", ["a"], 2)]))

    def test_names_of_nobody(self):
        for names in ({}, {"x": "y", "y": "x"}, {"ann": "ann"}):
            self.assertEqual(recalled(trio(), names), trio())
            self.assertEqual(recalled(Line([]), names), Line([]))

    def test_refused(self):
        for value in strange_but(is_line):
            with self.subTest(value=repr_of(value)):
                self.refused(InvalidLine, value, recalled, value, {})
                self.refused(InvalidLine, value, recalled, value, None)
        for value in BAD_EXCHANGES:
            with self.subTest(value=repr_of(value)):
                self.refused(InvalidNames, value, recalled, trio(), value)
                self.refused(InvalidNames, value, recalled, Line([]), value)
