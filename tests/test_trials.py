"""[154]: what is taken back and made again, blocks, attempts, copies and logs."""

import random

from elderlink.errors import InvalidAsker, InvalidCount, InvalidKind, InvalidLine, InvalidLog, InvalidNames, InvalidStock
from elderlink.errors import NotEnough, NothingToRedo, NothingToUndo, TakenName, UnknownName
from elderlink.house import Asker, Line
from elderlink.live import House, replayed
from tests.samples import ElderCase, ann, bob, cat, dan, is_line, is_right_stock, repr_of, spoiled, strange, strange_but, trio
from tests.test_live import called, drawn_call
from tests.ways import drawn_lines, line_of

CALLS = [("bring", "a", 4), ("lose", "a", 1), ("join", dan(), None), ("join", Asker("eve", ["a"], 2), 0), ("leave", "bob"),
         ("move", "cat", 0), ("order", ["ann", "cat", "dan", "eve"]), ("give",)]
LENGTHS = {"bring": 3, "lose": 3, "join": 3, "leave": 2, "move": 3, "order": 2, "give": 1}


def told(house):
    """All that a house tells."""
    return repr_of([house.line(), house.stock(), house.deal(), len(house), house.given(), house.log()])


def behind(house):
    """All that a house tells while everything is made again that can be, and then taken back."""
    other, found = house.copy(), []
    while True:
        found.append(told(other))
        try:
            other.redo()
        except NothingToRedo:
            break
    while True:
        try:
            other.undo()
        except NothingToUndo:
            return found
        found.append(told(other))


def log_of(call):
    """What the log tells of a call that is drawn."""
    return (call[0], call[1], None) if call[0] == "join" and len(call) == 2 else call


def busy():
    """A house with changes, one of them taken back."""
    house = House(trio(), {"a": 2, "b": 1})
    for call in CALLS:
        called(house, call)
    house.undo()
    return house


class UndoAndRedo(ElderCase):
    def test_through_every_kind_of_change(self):
        house = House(trio(), {"b": 2})
        states = [told(house)]
        for call in CALLS:
            called(house, call)
            states.append(told(house))
        self.assertEqual(repr_of(house.log()), repr_of(CALLS))
        for _ in range(2):
            for state in states[-2::-1]:
                self.assertIsNone(house.undo())
                self.assertEqual(told(house), state)
            self.assertEqual(house.log(), [])
            for _ in range(2):
                with self.assertRaises(NothingToUndo):
                    house.undo()
                self.assertEqual(told(house), states[0])
            for state in states[1:]:
                self.assertIsNone(house.redo())
                self.assertEqual(told(house), state)
            with self.assertRaises(NothingToRedo):
                house.redo()
            self.assertEqual(told(house), states[-1])

    def test_a_new_change_leaves_nothing_to_be_made_again(self):
        for call in CALLS[:3] + CALLS[-1:]:
            house = busy()
            house.undo()
            house.undo()
            called(house, ("bring", "q", 0) if call[0] == "join" else call)
            with self.assertRaises(NothingToRedo):
                house.redo()
            house.undo()
            house.redo()
            with self.assertRaises(NothingToRedo):
                house.redo()

    def test_behind_errors(self):
        house = busy()
        kept = behind(house)
        for error, call in ((NotEnough, ("lose", "q", 1)), (UnknownName, ("leave", "zoe")), (TakenName, ("join", dan())),
                            (InvalidCount, ("move", "cat", 99)), (InvalidNames, ("order", [])), (InvalidKind, ("bring", "", 1))):
            with self.assertRaises(error):
                called(house, call)
            self.assertEqual(behind(house), kept)
        house.redo()
        self.assertEqual(house.log()[-1], ("give",))

    def test_beside_a_list_of_states(self):
        for seed, line in enumerate(drawn_lines(1511, 30, 4, "abc", 3)):
            draw = random.Random(seed)
            house = House(line, {"a": draw.randint(0, 4), "b": 2})
            states, at, log = [told(house)], 0, []
            for _ in range(40):
                word = draw.choice(["undo", "undo", "redo", "call", "call"])
                if word == "call":
                    call = drawn_call(draw, house)
                    called(house, call)
                    log = log[:at] + [log_of(call)]
                    at += 1
                    states = states[:at] + [told(house)]
                elif 0 <= at + (1 if word == "redo" else -1) < len(states):
                    at += 1 if word == "redo" else -1
                    self.assertIsNone(called(house, (word,)))
                else:
                    with self.assertRaises(NothingToRedo if word == "redo" else NothingToUndo):
                        called(house, (word,))
                self.assertEqual(told(house), states[at])
                self.assertEqual(repr_of(house.log()), repr_of(log[:at]))

    def test_nothing_to_undo_tells_nothing(self):
        for error in (NothingToUndo, NothingToRedo):
            with self.assertRaises(error) as caught:
                house = House(Line([]), {})
                house.undo() if error is NothingToUndo else house.redo()
            self.assertEqual(caught.exception.args, ())


class Blocks(ElderCase):
    def test_everything_as_at_the_beginning(self):
        for seed in range(30):
            draw = random.Random(seed)
            house = busy()
            kept = behind(house)
            with house.trial() as name:
                self.assertIs(name, house)
                for _ in range(8):
                    self.some(draw, house)
            self.assertEqual(behind(house), kept)

    def some(self, draw, house):
        word = draw.choice(["undo", "redo", "call", "call"])
        try:
            called(house, drawn_call(draw, house) if word == "call" else (word,))
        except (NothingToUndo, NothingToRedo):
            pass

    def test_changes_from_ahead_of_a_block(self):
        house = busy()
        kept, changes = behind(house), len(house.log())
        with house.trial():
            for _ in range(changes):
                house.undo()
            with self.assertRaises(NothingToUndo):
                house.undo()
            house.redo()
            house.bring("z", 3)
        self.assertEqual(behind(house), kept)
        with house.trial():
            house.redo()
            self.assertEqual(house.log()[-1], ("give",))
        self.assertEqual(behind(house), kept)
        house.redo()

    def test_left_by_an_error(self):
        class Mine(Exception):
            pass

        house = busy()
        kept = behind(house)
        mine = Mine()
        with self.assertRaises(Mine) as caught:
            with house.trial():
                house.give()
                raise mine
        self.assertIs(caught.exception, mine)
        self.assertEqual(behind(house), kept)
        with self.assertRaises(NotEnough) as caught:
            with house.trial():
                house.bring("a", 2)
                house.undo()
                house.undo()
                house.lose("zz", 1)
        self.assertEqual((caught.exception.value, behind(house)), ("zz", kept))
        for error in (KeyboardInterrupt, StopIteration):
            with self.assertRaises(error):
                with house.trial():
                    house.leave("ann")
                    raise error()
            self.assertEqual(behind(house), kept)

    def test_left_by_a_return(self):
        def tried(house):
            with house.trial():
                house.give()
                return house.given()

        house = House(trio(), {"a": 1})
        self.assertEqual((tried(house), house.given(), house.log()), ([("ann", 1)], [], []))

    def test_ten_deep(self):
        house = House(trio(), {"a": 1})

        def deeper(depth):
            before = behind(house)
            with house.trial():
                house.bring("a", depth)
                if depth < 10:
                    deeper(depth + 1)
                    self.assertEqual(house.log()[-1], ("bring", "a", depth))
                else:
                    self.assertEqual(house.stock(), {"a": 56})
            self.assertEqual(behind(house), before)

        deeper(1)
        self.assertEqual((house.stock(), house.log()), ({"a": 1}, []))

    def test_a_block_within_a_block_left_by_an_error(self):
        house = House(trio(), {"a": 1})
        with house.trial():
            house.bring("a", 1)
            with self.assertRaises(UnknownName):
                with house.trial():
                    house.undo()
                    house.leave("zoe")
            self.assertEqual((house.stock(), house.log()), ({"a": 2}, [("bring", "a", 1)]))
            house.undo()
            house.redo()
        self.assertEqual((house.stock(), house.log()), ({"a": 1}, []))

    def test_a_call_alone(self):
        house = busy()
        kept = behind(house)
        block = house.trial()
        self.assertEqual(behind(house), kept)
        house.bring("zz", 3)
        later = behind(house)
        with block:
            house.give()
        # The beginning of the block counts, not the call.
        self.assertEqual(behind(house), later)

    def test_what_is_kept_in_a_block(self):
        house = House(trio(), {"a": 1})
        with house.trial():
            stock, log = house.stock(), house.log()
            house.bring("a", 1)
            inner = house.copy()
        stock.clear()
        log.append(None)
        self.assertEqual((house.stock(), inner.stock(), inner.log()), ({"a": 1}, {"a": 2}, [("bring", "a", 1)]))


class Attempts(ElderCase):
    def test_what_is_returned(self):
        house = busy()
        kept = behind(house)
        found = []
        self.assertIs(house.attempt(lambda same: found), found)
        self.assertIs(house.attempt(lambda same: same), house)
        self.assertEqual(house.attempt(lambda same: same.give()), House(house.line(), house.stock()).deal())
        self.assertIs(house.attempt(action=lambda same: None), None)

        def rows(same):
            same.undo()
            found.append(same.bring("a", 1))
            return found

        self.assertIs(house.attempt(rows), found)
        self.assertEqual((len(found), behind(house)), (1, kept))

    def test_a_function_that_raises(self):
        house = busy()
        kept = behind(house)
        error = ZeroDivisionError()

        def action(same):
            same.give()
            same.undo()
            same.undo()
            raise error

        with self.assertRaises(ZeroDivisionError) as caught:
            house.attempt(action)
        self.assertIs(caught.exception, error)
        with self.assertRaises(UnknownName):
            house.attempt(lambda same: same.leave("zoe"))
        self.assertEqual(behind(house), kept)

    def test_nested(self):
        house = House(trio(), {"a": 1})

        def action(same):
            same.bring("a", 1)
            if same.stock()["a"] < 11:
                inner = same.attempt(action)
                self.assertEqual(same.log()[-1], ("bring", "a", 1))
                return inner
            return same.stock()

        self.assertEqual((house.attempt(action), house.stock(), house.log()), ({"a": 11}, {"a": 1}, []))


class Copies(ElderCase):
    def test_the_same_in_all(self):
        house = busy()
        other = house.copy()
        self.assertIsNot(other, house)
        self.assertIs(type(other), House)
        self.assertEqual(behind(other), behind(house))

    def test_they_go_their_own_ways(self):
        for seed in range(20):
            draw = random.Random(seed)
            house = busy()
            other = house.copy()
            kept = behind(house)
            for _ in range(6):
                Blocks.some(self, draw, other)
            self.assertEqual(behind(house), kept)
            there = behind(other)
            house.undo()
            house.bring("a", 9)
            house.undo()
            self.assertEqual(behind(other), there)

    def test_in_a_block(self):
        house = busy()
        with house.trial():
            house.undo()
            house.bring("z", 1)
            other = house.copy()
            there = behind(other)
        self.assertEqual(behind(other), there)
        with other.trial():
            other.give()
        self.assertEqual(behind(other), there)


class Logs(ElderCase):
    def test_replayed(self):
        for seed, line in enumerate(drawn_lines(1512, 30, 4, "abc", 3)):
            draw = random.Random(seed)
            stock = {"a": draw.randint(0, 4), "b": 2, "z": 0}
            house = House(line, stock)
            for _ in range(15):
                called(house, drawn_call(draw, house))
            for _ in range(seed % 4):
                house.undo()
            kept = repr_of(house.log())
            other = replayed(line, stock, house.log())
            self.assertEqual(told(other), told(house))
            self.assertEqual(repr_of(house.log()), kept)
            with self.assertRaises(NothingToRedo):
                other.redo()
            self.assertEqual(told(replayed(log=house.log(), stock=stock, line=line)), told(house))
        self.assertEqual(told(replayed(trio(), {"a": 1}, [])), told(House(trio(), {"a": 1})))

    def test_the_log_is_no_door(self):
        names = ["cat", "bob", "ann"]
        log = [("order", names), ("bring", "a", 2)]
        house = replayed(trio(), {}, log)
        names.reverse()
        log.clear()
        self.assertEqual((house.log(), house.line().names()), ([("order", ["cat", "bob", "ann"]), ("bring", "a", 2)], ["cat", "bob", "ann"]))

    def test_no_logs(self):
        wrong = [("bring", "a", 1), [["bring", "a", 1]], [("bring", "a")], [("bring", "a", 1, 1)], [("give", None)], [()], [("GIVE",)],
                 [("leave",)], [("move", "ann")], [("join", dan())], [("order", "ann", "bob", "cat")], [("undo",)], [("deal",)],
                 [("try", [])], [None], [("give",), None], [("give",), ("short", "ann")], ("give",), [(None,)], [((), 1)], [({}, 1)],
                 [(("give",),)], [("lose", "a")], {"give": 1}, [[]]]
        for value in wrong + [value for value in strange() if value != []]:
            self.refused(InvalidLog, value, replayed, trio(), {"a": 1}, value)
        for value in spoiled([("bring", "a", 1), ("give",)]):
            if not self.is_right_log(value):
                self.refused(InvalidLog, value, replayed, trio(), {"a": 1}, value)
        # The form of all changes counts ahead of what the first ones raise.
        late = [("leave", "zoe"), ("give", 1)]
        self.refused(InvalidLog, late, replayed, trio(), {}, late)

    def is_right_log(self, value):
        return type(value) is list and all(
            type(part) is tuple and part and type(part[0]) is str and LENGTHS.get(part[0]) == len(part) for part in value)

    def test_which_error_comes_first(self):
        for value in strange_but(is_line):
            self.refused(InvalidLine, value, replayed, value, None, None)
        for value in strange_but(is_right_stock):
            self.refused(InvalidStock, value, replayed, trio(), value, None)

    def test_one_wrong_thing_in_each_place(self):
        for error, change, value in (
            (InvalidKind, ("bring", None, -1), None), (InvalidCount, ("bring", "a", True), True), (InvalidKind, ("lose", [], 1), []),
            (InvalidCount, ("lose", "a", None), None), (NotEnough, ("lose", "b", 4), "b"), (InvalidAsker, ("join", "dan", 99), "dan"),
            (TakenName, ("join", ann(), 99), "ann"), (InvalidCount, ("join", dan(), 4), 4), (InvalidCount, ("join", dan(), "0"), "0"),
            (UnknownName, ("leave", ["ann"]), ["ann"]), (UnknownName, ("move", "zoe", None), "zoe"), (InvalidCount, ("move", "ann", 3), 3),
            (InvalidCount, ("move", "ann", None), None), (InvalidNames, ("order", ["ann"]), ["ann"]),
            (InvalidNames, ("order", ("ann", "bob", "cat")), ("ann", "bob", "cat")),
        ):
            for log in ([change], [("bring", "z", 1), ("leave", "ann"), ("join", ann(), 0), change, ("leave", "nobody")]):
                kept = repr_of(log)
                with self.assertRaises(error) as caught:
                    replayed(trio(), {"a": 1}, log)
                self.assertEqual(repr_of(caught.exception.value), repr_of(value))
                self.assertEqual(repr_of(log), kept)
        names = ["zoe"]
        self.refused(InvalidNames, names, lambda log: replayed(Line([bob(), cat()]), {}, log), [("order", names)])

    def test_a_house_that_takes_a_hundred_changes(self):
        house = House(line_of(["ab", "b"], [3, 4]), {})
        for at in range(100):
            house.bring("ab"[at % 2], at) if at % 7 else house.give()
        states = [told(house)]
        while house.log():
            house.undo()
            states.append(told(house))
        self.assertEqual(len(states), 101)
        for state in states[-2::-1]:
            house.redo()
            self.assertEqual(told(house), state)
        self.assertEqual(told(replayed(line_of(["ab", "b"], [3, 4]), {}, house.log())), states[0])
