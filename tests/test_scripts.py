"""[160] to [163]: scripts played, written as texts and read, and texts of what was said."""

import itertools
import random

from elderlink.errors import InvalidScript, InvalidText
from elderlink.house import Asker, Line
from elderlink.live import House
from elderlink.scripts import play, read_script, said_text, script_text
from tests.samples import BIG, ElderCase, HUGE, ann, bob, cat, nested, repr_of, spoiled, strange, trio
from tests.scripting import drawn_script, is_right_script, played_by_hand, rows_of, said_rows_of
from tests.test_trials import behind, busy, told
from tests.ways import bent, drawn_lines, line_of

ALL = [("bring", "a", 2), ("lose", "a", 1), ("join", Asker("dan", ["d", "a"], 3), 0), ("join", Asker("eve", ["z"], 1), None),
       ("leave", "bob"), ("move", "cat", 0), ("order", ["ann", "cat", "dan", "eve"]), ("order", []), ("give",), ("undo",), ("redo",),
       ("deal",), ("stock",), ("short", "cat"), ("short", "zoe"), ("try", []), ("try", [("give",), ("try", [("undo",), ("deal",)])])]


def drawn(seed, number, length):
    for at in range(number):
        draw = random.Random(seed + at)
        yield drawn_script(draw, length)


class Played(ElderCase):
    def test_beside_a_house_by_hand(self):
        words = {}
        lines = [trio(), Line([]), *drawn_lines(1601, 20, 3, "abc", 2)]
        for at, script in enumerate(drawn(1602, 120, 12)):
            line, stock = lines[at % len(lines)], {"a": at % 3, "b": 1, "z": 0}
            house, other = House(line, stock), House(line, stock)
            kept = repr_of(script)
            said = play(house, script)
            self.assertEqual(repr_of(said), repr_of(played_by_hand(other, script)))
            self.assertEqual(behind(house), behind(other))
            self.assertEqual(repr_of(script), kept)
            for item in said:
                word = item[1] if item[0] == "refused" else item[0]
                words[word] = words.get(word, 0) + 1
        self.assertEqual(sorted(words), sorted([
            "turned", "gave", "done", "deal", "stock", "short", "tried", "NotEnough", "TakenName", "InvalidCount", "UnknownName",
            "InvalidNames", "NothingToUndo", "NothingToRedo"]))

    def test_every_command(self):
        house = House(trio(), {"a": 3, "b": 1})
        self.assertEqual(play(house, ALL), [
            ("turned", [("bob", 0, 2)]), ("turned", [("bob", 2, 1)]), ("turned", [("ann", 3, 1), ("bob", 1, 0), ("dan", 0, 3)]),
            ("turned", []), ("turned", []), ("turned", []), ("turned", [("ann", 1, 3), ("dan", 3, 1)]), ("refused", "InvalidNames"),
            ("gave", [("ann", 3), ("cat", 1), ("dan", 1), ("eve", 0)]), ("done",), ("done",),
            ("deal", [("cat", 0), ("dan", 0), ("eve", 0)]), ("stock", {}), ("short", ["cat"]), ("refused", "UnknownName"), ("tried", []),
            ("tried", [("gave", [("cat", 0), ("dan", 0), ("eve", 0)]), ("tried", [
                ("done",), ("deal", [("cat", 0), ("dan", 0), ("eve", 0)])])])])
        self.assertEqual(len(house.log()), 8)
        self.assertEqual(play(script=[("stock",)], house=house), [("stock", {})])

    def test_a_refused_command_changes_nothing(self):
        house = busy()
        kept = behind(house)
        for command, word in ((("lose", "q", 1), "NotEnough"), (("join", ann(), None), "TakenName"), (("leave", "zoe"), "UnknownName"),
                              (("move", "zoe", 0), "UnknownName"), (("move", "cat", 9), "InvalidCount"), (("order", []), "InvalidNames"),
                              (("join", Asker("new", ["a"], 1), 9), "InvalidCount"), (("short", "zoe"), "UnknownName")):
            self.assertEqual(play(house, [command]), [("refused", word)])
            self.assertEqual(play(house, [("try", [command, command])]), [("tried", [("refused", word)] * 2)])
            self.assertEqual(behind(house), kept)
        house.redo()
        self.assertEqual(play(house, [("redo",)]), [("refused", "NothingToRedo")])
        self.assertEqual(play(House(trio(), {}), [("undo",), ("redo",), ("deal",)])[:2],
                         [("refused", "NothingToUndo"), ("refused", "NothingToRedo")])

    def test_tries_leave_nothing(self):
        for script in drawn(1603, 40, 8):
            house = busy()
            kept = behind(house)
            said = play(house, [("try", script)])
            self.assertEqual(repr_of(said), repr_of([("tried", play(busy(), script))]))
            self.assertEqual(behind(house), kept)

    def test_a_log_is_a_script(self):
        for at, script in enumerate(drawn(1604, 60, 15)):
            line, stock = line_of(["ab", "b", "c"], [2, 1, 3]), {"a": at % 4, "c": 1}
            house = House(line, stock)
            play(house, script)
            self.assertTrue(is_right_script(house.log()))
            other = House(line, stock)
            self.assertNotIn("refused", [item[0] for item in play(other, house.log())])
            self.assertEqual(told(other), told(house))
            self.assertEqual(play(other, [("redo",)]), [("refused", "NothingToRedo")])

    def test_great_counts(self):
        for great in (BIG, HUGE):
            house = House(trio(), {})
            script = [("bring", "a", great), ("lose", "a", great - 4), ("give",), ("stock",), ("move", "cat", great)]
            self.assertEqual(play(house, script), [
                ("turned", [("ann", 0, 3), ("bob", 0, 2)]), ("turned", [("bob", 2, 1)]),
                ("gave", [("ann", 3), ("bob", 1), ("cat", 0)]), ("stock", {}), ("refused", "InvalidCount")])
            self.assertEqual(read_script(script_text(script)), script)

    def test_nothing_is_a_door(self):
        script = [("order", ["cat", "ann", "bob"]), ("try", [("order", ["ann", "bob", "cat"])]), ("deal",), ("short", "bob")]
        house = House(trio(), {"a": 1})
        said = play(house, script)
        kept = repr_of(said)
        script[0][1].clear()
        script[1][1].clear()
        self.assertEqual((house.log(), repr_of(said)), ([("order", ["cat", "ann", "bob"])], kept))
        there = told(house)
        said[1][1].clear()
        said[2][1].clear()
        said[3][1].clear()
        self.assertEqual(told(house), there)
        self.assertEqual(repr_of(play(house, [("deal",), ("short", "bob")])), repr_of([
            ("deal", [("cat", 0), ("ann", 1), ("bob", 0)]), ("short", ["ann", "bob"])]))


class Wrong(ElderCase):
    def wrong(self):
        rows = [("bring", "a"), ("bring", "a", 1, 1), ("bring", "A", 1), ("bring", "a", -1), ("bring", "a", True), ("bring", None, 1),
                ("lose", "a", None), ("lose", "", 0), ("lose",), ("join", ann()), ("join", "ann", 0), ("join", ann(), -1), ("join", ann(), "0"),
                ("join", ann(), True), ("join", ann(), None, None), ("leave",), ("leave", 1), ("leave", "ann", "bob"), ("leave", ["ann"]),
                ("move", "ann"), ("move", "ann", None), ("move", 0, "ann"), ("order",), ("order", ("ann",)), ("order", ["ann", "ann"]),
                ("order", ["ann", 1]), ("order", {"ann": 1}), ("order", "ann"), ("give", 1), ("give", None), ("undo", 1), ("redo", []),
                ("deal", "ann"), ("stock", {}), ("short",), ("short", None), ("short", "ANN"), ("try",), ("try", ()), ("try", None),
                ("try", [], []), ("try", [None]), ("try", [["give"]]), (), ("", ), (None,), (("give",),), ("Give",), ("give ",), ["give"],
                "give", None, 0, ("bring", ["a"], 1), ("copy",), ("trial",), ([],), ({}, 1)]
        for row in rows:
            yield [row]
            yield [("give",), row, ("deal",)]
            yield [("try", [row])]
            yield [("try", [("try", [("stock",), ("try", [row])])])]
        yield from [("give",), (("give",),), {"give": 1}, "give", None, ann(), House(trio(), {}), nested(40)]

    def test_no_scripts(self):
        for value in self.wrong():
            house = busy()
            kept = behind(house)
            self.assertFalse(is_right_script(value))
            self.refused(InvalidScript, value, play, house, value)
            self.assertEqual(behind(house), kept)
            self.refused(InvalidScript, value, script_text, value)

    def test_spoiled_and_bent(self):
        script = [("join", cat(), 1), ("order", ["ann"]), ("try", [("bring", "a", 2), ("short", "bob")]), ("undo",)]
        right = 0
        for value in [*spoiled(script), *bent(script)]:
            kept = repr_of(value)
            if is_right_script(value):
                right += 1
                self.assertEqual(script_text(value), "\n".join(rows_of(value)))
                self.assertEqual(len(play(House(trio(), {"a": 1}), value)), len(value))
            else:
                self.refused(InvalidScript, value, script_text, value)
                self.refused(InvalidScript, value, play, House(trio(), {}), value)
            self.assertEqual(repr_of(value), kept)
        self.assertGreater(right, 20)


class Texts(ElderCase):
    def test_there_and_back(self):
        for script in [[], ALL, *drawn(1605, 150, 9), [("try", [("try", [("try", [("try", [])])])])], [("leave", "end")],
                       [("order", ["try", "end", "order"]), ("short", "try")], [("bring", "join", 0), ("join", Asker("end", ["try"], 1), 0)]]:
            text = script_text(script)
            self.assertEqual(text, "\n".join(rows_of(script)))
            self.assertEqual(repr_of(read_script(text)), repr_of(script))
        self.assertEqual((script_text([]), read_script("")), ("", []))

    def test_one_sign_bent(self):
        scripts = [[("bring", "a", 10), ("order", []), ("join", ann(), None)], [("try", [("try", [("lose", "b", 0)]), ("join", bob(), 12)])],
                   [("order", ["ann", "bob"]), ("try", []), ("short", "cat"), ("move", "x", 1)], [("give",), ("undo",), ("redo",)]]
        right = 0
        for script in scripts:
            text = script_text(script)
            texts = [text[:at] + sign + text[at + more:] for at in range(len(text) + 1) for more in (0, 1) for sign in " 01aet\n,:-" + "T\u00e9"]
            texts += [text[:at] + text[at + 1:] for at in range(len(text))] + [text + "\n", "\n" + text, text.upper(), " " + text]
            texts += ["\n".join(rows) for rows in itertools.permutations(text.split("\n")) if len(rows) < 6]
            for other in texts:
                right += self.judged(other)
        self.assertGreater(right, 100)

    def judged(self, text):
        """A text is right exactly if what was read of it has just this text."""
        try:
            script = read_script(text)
        except InvalidText as error:
            self.assertIs(error.value, text)
            return False
        self.assertTrue(is_right_script(script))
        self.assertEqual("\n".join(rows_of(script)), text)
        return True

    def test_texts_of_bent_scripts_are_read(self):
        for script in itertools.islice(bent(ALL[:7]), 0, None, 3):
            if is_right_script(script):
                self.assertEqual(repr_of(read_script("\n".join(rows_of(script)))), repr_of(script))

    def test_no_texts(self):
        for value in strange():
            if value != "":
                self.refused(InvalidText, value, read_script, value)
        for text in ("\n", " ", "give\n", "\ngive", "give\n\ngive", "give ", " give", "  give", "Give", "give give", "try", "end", "try\ngive\nend",
                     "try\n give\nend", "try\n   give\nend", "try\n  give\n  end", "try\n  give", "try \nend", "try\nend ", "try\n  try\n  end",
                     "try\n  try\n    deal\n  end", "try\nend\nend", "bring a", "bring a 01", "bring a -1", "bring a +1", "bring a 1 1", "bring  a 1",
                     "bring a  1", "bring A 1", "bring a 1.", "bring a one", "lose 1 a", "join", "join ", "join ann", "join ann 0: a",
                     "join ann 1: b, a", "join ann 1: a, a", "join ann 1:a", "join 00 ann 1: a", "join -1 ann 1: a", "join  ann 1: a",
                     "join 1  ann 1: a", "join None ann 1: a", "leave", "leave ", "leave ann bob", "leave Ann", "move ann", "move 1 ann",
                     "move ann 1 2", "order ", "order  ann", "order ann ", "order ann ann", "order ann, bob", "order ann  bob", "short",
                     "short none nobody", "stock a", "deal 1", "undo undo", "turned ann 1 to 2", "gave ann 3", "give\r\ngive", "give\tundo",
                     "bring a \u0661", "try\n\tgive\nend", "log", "trial"):
            self.refused(InvalidText, text, read_script, text)
            longer = f"{text}\ngive"
            self.refused(InvalidText, longer, read_script, longer)

    def test_long_texts(self):
        script = [("bring", "a" * 10, 10 ** 380), *[("order", [a + b for a in "abcdefgh" for b in "abcdefghijklmnop"]) for _ in range(20)],
                  *[("try", [("give",)]) for _ in range(10)]]
        text = script_text(script)
        self.assertTrue(len(text.split("\n")) < 61 and max(len(row) for row in text.split("\n")) < 401)
        self.assertEqual(read_script(text), script)


class SaidTexts(ElderCase):
    def test_of_what_was_played(self):
        lines = [trio(), Line([]), *drawn_lines(1606, 10, 3, "abc", 2)]
        for at, script in enumerate(drawn(1607, 80, 12)):
            said = play(House(lines[at % len(lines)], {"a": at % 3, "b": 1}), script)
            kept = repr_of(said)
            self.assertEqual(said_text(said), "\n".join(said_rows_of(said)))
            self.assertEqual(repr_of(said), kept)
        self.assertEqual(said_text(said=[]), "")

    def test_every_item(self):
        house = House(trio(), {"a": 3, "b": 1})
        self.assertEqual(said_text(play(house, ALL)).split("\n"), [
            "turned bob 0 to 2", "turned bob 2 to 1", "turned ann 3 to 1, bob 1 to 0, dan 0 to 3", "nothing turned", "nothing turned",
            "nothing turned", "turned ann 1 to 3, dan 3 to 1", "refused InvalidNames", "gave ann 3, cat 1, dan 1, eve 0", "done", "done",
            "deal cat 0, dan 0, eve 0", "stock none", "short cat", "refused UnknownName", "tried", "tried", "  gave cat 0, dan 0, eve 0",
            "  tried", "    done", "    deal cat 0, dan 0, eve 0"])
        empty = House(Line([]), {"b": 2, "a": 10})
        self.assertEqual(said_text(play(empty, [("give",), ("deal",), ("stock",), ("try", []), ("order", [])])).split("\n"),
                         ["gave nobody", "deal nobody", "stock a 10, b 2", "tried", "nothing turned"])
        self.assertEqual(said_text(play(House(trio(), {"a": HUGE}), [("bring", "b", HUGE), ("short", "ann")])),
                         "turned cat 0 to 4\nnot short")
