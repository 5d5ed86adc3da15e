"""[31] and [32]: lines, and the lines that come of them."""

import itertools

from elderlink.errors import InvalidAsker, InvalidCount, InvalidLine, InvalidNames, TakenName, UnknownName
from elderlink.house import Asker, Line
from tests.samples import BIG, ElderCase, HUGE, ann, bob, cat, dan, is_asker, is_right_count, repr_of, strange
from tests.samples import strange_but, trio

ORDERS = [list(order) for order in itertools.permutations(["ann", "bob", "cat"])]


def are_right_askers(value):
    return type(value) is list and all(type(asker) is Asker for asker in value)


class Lines(ElderCase):
    def test_what_a_line_tells(self):
        line = trio()
        self.assertEqual(line.askers(), [ann(), bob(), cat()])
        self.assertEqual(line.names(), ["ann", "bob", "cat"])
        self.assertEqual(len(line), 3)
        self.assertEqual(line.kinds(), ["a", "ab", "b", "c"])
        self.assertEqual([line.asker(name) for name in line.names()], line.askers())
        self.assertEqual([line.place(name) for name in ("cat", "ann", "bob")], [2, 0, 1])
        self.assertEqual([type(line.askers()), type(line.names()), type(line.kinds())], [list, list, list])

    def test_empty_line(self):
        line = Line([])
        self.assertEqual((line.askers(), line.names(), len(line), line.kinds()), ([], [], 0, []))
        self.assertEqual(line, Line(askers=[]))

    def test_line_of_forty(self):
        names = [first + second for first in "abcdefgh" for second in "vwxyz"]
        line = Line([Asker(name, ["k" + name], BIG) for name in reversed(names)])
        self.assertEqual(line.names(), names[::-1])
        self.assertEqual(line.kinds(), ["k" + name for name in names])
        self.assertEqual(line.ordered(names).names(), names)

    def test_no_lines(self):
        for value in strange_but(are_right_askers):
            with self.subTest(value=repr_of(value)):
                self.refused(InvalidLine, value, Line, value)
        for value in strange_but(is_asker):
            for askers in ([value], [ann(), value], [value, ann()]):
                with self.subTest(askers=repr_of(askers)):
                    self.refused(InvalidLine, askers, Line, askers)
        for value in ([ann(), ann()], [ann(), bob(), Asker("ann", ["z"], 9)], (ann(),), {"ann": ann()}, ann(), trio()):
            self.refused(InvalidLine, value, Line, value)

    def test_asker_and_place_of_nobody(self):
        for value in strange_but(lambda value: value == "ann"):
            with self.subTest(value=repr_of(value)):
                self.refused(UnknownName, value, trio().asker, value)
                self.refused(UnknownName, value, trio().place, value)
        for value in strange():
            self.refused(UnknownName, value, Line([]).asker, value)
            self.refused(UnknownName, value, Line([]).place, value)

    def test_equal_by_askers_and_order(self):
        other_ann = Asker("ann", ["a", "ab"], 4)
        lists = [list(row) for many in range(4) for row in itertools.permutations([ann(), bob(), cat(), other_ann], many)]
        lists = [row for row in lists if not (ann() in row and other_ann in row)]
        for one, other in itertools.product(lists, lists):
            self.assertEqual(Line(one) == Line(other), one == other)
            self.assertEqual(Line(one) != Line(other), one != other)

    def test_never_equal_to_another_class(self):
        for line in (Line([]), Line([ann()]), trio()):
            for value in strange_but(lambda value: type(value) is Line) + [line.askers(), line.names(), len(line)]:
                with self.subTest(value=repr_of(value)):
                    self.assertIs(line == value, False)
                    self.assertIs(value == line, False)
                    self.assertIs(line != value, True)

    def test_lists_are_no_doors(self):
        askers = [ann(), bob()]
        line = Line(askers)
        askers.append(cat())
        askers[0] = dan()
        for told in (line.askers(), line.names(), line.kinds()):
            told.reverse()
            told.append("z")
        self.assertEqual(line, Line([ann(), bob()]))
        self.assertEqual((line.names(), line.kinds(), len(line)), (["ann", "bob"], ["a", "ab"], 2))
        self.assertIsNot(line.askers(), line.askers())


class Changes(ElderCase):
    def tearDown(self):
        self.assertEqual(self.line.names(), ["ann", "bob", "cat"])
        self.assertEqual(self.line, trio())

    def setUp(self):
        self.line = trio()

    def test_without(self):
        self.assertEqual(self.line.without("ann"), Line([bob(), cat()]))
        self.assertEqual(self.line.without("bob"), Line([ann(), cat()]))
        self.assertEqual(self.line.without(name="cat"), Line([ann(), bob()]))
        self.assertEqual(Line([ann()]).without("ann"), Line([]))

    def test_without_nobody(self):
        for value in strange_but(lambda value: value == "ann"):
            with self.subTest(value=repr_of(value)):
                self.refused(UnknownName, value, self.line.without, value)
        self.refused(UnknownName, "ann", Line([]).without, "ann")

    def test_put_in(self):
        askers = [ann(), bob(), cat()]
        for place in range(4):
            wanted = askers[:place] + [dan()] + askers[place:]
            self.assertEqual(self.line.put_in(dan(), place).askers(), wanted)
            self.assertEqual(self.line.put_in(place=place, asker=dan()), Line(wanted))
        self.assertEqual(Line([]).put_in(dan(), 0), Line([dan()]))

    def test_put_in_refused(self):
        for value in strange_but(is_asker):
            with self.subTest(value=repr_of(value)):
                self.refused(InvalidAsker, value, self.line.put_in, value, 0)
                self.refused(InvalidAsker, value, self.line.put_in, value, -1)
        for name in ("ann", "bob", "cat"):
            asker = Asker(name, ["z"], 9)
            self.refused(TakenName, asker.name, self.line.put_in, asker, 0)
            self.refused(TakenName, asker.name, self.line.put_in, asker, None)
        for value in strange_but(is_right_count) + [4, -1, True, False, BIG, HUGE]:
            with self.subTest(value=repr_of(value)):
                self.refused(InvalidCount, value, self.line.put_in, dan(), value)
        self.refused(InvalidCount, 1, Line([]).put_in, dan(), 1)

    def test_moved(self):
        for name in ("ann", "bob", "cat"):
            others = [other for other in ("ann", "bob", "cat") if other != name]
            for place in range(3):
                moved = self.line.moved(name, place)
                self.assertEqual(moved.names(), others[:place] + [name] + others[place:])
                self.assertEqual(moved, self.line.ordered(moved.names()))
                self.assertEqual(moved, self.line.moved(place=place, name=name))

    def test_moved_refused(self):
        for value in strange_but(lambda value: value == "ann"):
            with self.subTest(value=repr_of(value)):
                self.refused(UnknownName, value, self.line.moved, value, 0)
                self.refused(UnknownName, value, self.line.moved, value, -1)
        for value in strange_but(is_right_count) + [3, 4, -1, True, False, BIG, HUGE]:
            with self.subTest(value=repr_of(value)):
                self.refused(InvalidCount, value, self.line.moved, "bob", value)
        self.refused(UnknownName, "ann", Line([]).moved, "ann", 0)
        self.refused(InvalidCount, 1, Line([ann()]).moved, "ann", 1)

    def test_changed(self):
        for at, name in enumerate(["ann", "bob", "cat"]):
            asker = Asker(name, ["z"], 9)
            askers = [ann(), bob(), cat()]
            askers[at] = asker
            self.assertEqual(self.line.changed(asker).askers(), askers)
            self.assertEqual(self.line.changed(asker=asker), Line(askers))
        self.assertEqual(self.line.changed(bob()), self.line)

    def test_changed_refused(self):
        for value in strange_but(is_asker):
            with self.subTest(value=repr_of(value)):
                self.refused(InvalidAsker, value, self.line.changed, value)
        asker = dan()
        self.refused(UnknownName, asker.name, self.line.changed, asker)
        self.refused(UnknownName, asker.name, Line([]).changed, asker)

    def test_ordered(self):
        for order in ORDERS:
            self.assertEqual(self.line.ordered(order).names(), order)
            self.assertEqual(self.line.ordered(names=order).askers(), [self.line.asker(name) for name in order])
        self.assertEqual(Line([]).ordered([]), Line([]))

    def test_ordered_refused(self):
        wrong = strange() + [
            ["ann", "bob"], ["ann", "bob", "cat", "dan"], ["ann", "bob", "bob"], ["ann", "bob", "cat", "cat"],
            ["ann", "bob", "dan"], ("ann", "bob", "cat"), {"ann": 0, "bob": 1, "cat": 2}, [ann(), bob(), cat()],
            ["ann", "bob", None], ["ann", "bob", ["cat"]], ["ann", "bob", "Cat"],
        ]
        for value in wrong:
            with self.subTest(value=repr_of(value)):
                self.refused(InvalidNames, value, self.line.ordered, value)
        self.refused(InvalidNames, wrong[-1], Line([]).ordered, wrong[-1])

    def test_passed_lists_are_no_doors(self):
        names = ["cat", "ann", "bob"]
        ordered = self.line.ordered(names)
        names.reverse()
        self.assertEqual(ordered.names(), ["cat", "ann", "bob"])
        made = [self.line.without("ann"), self.line.put_in(dan(), 0), self.line.moved("ann", 2), self.line.changed(bob())]
        for line in made:
            names = line.names()
            line.askers().clear()
            self.assertEqual(line.names(), names)
