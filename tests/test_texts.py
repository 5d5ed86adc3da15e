"""[40] and [41]: texts, and what has just these texts."""

import itertools
import re

from elderlink.errors import InvalidAsker, InvalidDeal, InvalidLine, InvalidStock, InvalidText
from elderlink.house import Asker, Line
from elderlink.texts import asker_text, deal_text, line_text, read_asker, read_deal, read_line, read_stock, stock_text
from tests.samples import BAD_NAMES, BIG, ElderCase, ann, bob, cat, is_asker, is_line, is_right_count, is_right_name
from tests.samples import is_right_stock, repr_of, strange, strange_but, trio

NAME = "[a-z]{1,10}"
ASKER = re.compile(f"({NAME}) ([1-9][0-9]*): ({NAME}(?:, {NAME})*)")
PAIRS = re.compile(f"{NAME} (?:0|[1-9][0-9]*)(?:, {NAME} (?:0|[1-9][0-9]*))*")
SIGNS = ["", " ", ",", ", ", ":", "\n", "\r", "\t", "0", "1", "9", "-", "+", "_", ".", "a", "b", "z", "A", "\u00b2", "\u0663"]


def is_asker_text(text):
    found = ASKER.fullmatch(text)
    return found is not None and found[3].split(", ") == sorted(set(found[3].split(", ")))


def is_line_text(text):
    rows = text.split("\n") if text else []
    names = [row.split(" ")[0] for row in rows]
    return all(is_asker_text(row) for row in rows) and len(set(names)) == len(names)


def are_pairs(text):
    return PAIRS.fullmatch(text) is not None


def is_stock_text(text):
    if text == "none":
        return True
    kinds = [part.split(" ")[0] for part in text.split(", ")]
    return are_pairs(text) and kinds == sorted(set(kinds)) and " 0" not in text


def is_deal_text(text):
    if text == "nobody":
        return True
    names = [part.split(" ")[0] for part in text.split(", ")]
    return are_pairs(text) and len(set(names)) == len(names)


JUDGES = [
    (read_asker, asker_text, is_asker_text), (read_line, line_text, is_line_text),
    (read_stock, stock_text, is_stock_text), (read_deal, deal_text, is_deal_text),
]


def is_right_deal(value):
    if type(value) is not list:
        return False
    if not all(type(pair) is tuple and len(pair) == 2 for pair in value):
        return False
    if not all(is_right_name(name) and is_right_count(count) for name, count in value):
        return False
    return len({name for name, _ in value}) == len(value)


def bent(text):
    """The text with something put in, taken out or put in the place of something, at each place."""
    for at in range(len(text) + 1):
        for sign in SIGNS:
            yield text[:at] + sign + text[at:]
            yield text[:at] + sign + text[at + 1:]
            yield text[:at] + sign + text[at + 2:]
    for at in range(len(text) - 1):
        yield text[:at] + text[at + 1] + text[at] + text[at + 2:]
    for part in text.split(", "):
        yield f"{text}, {part}"
        yield f"{part}, {text}"


class Writers(ElderCase):
    def test_askers(self):
        self.assertEqual(asker_text(ann()), "ann 3: a, ab")
        self.assertEqual(asker_text(asker=bob()), "bob 2: a")
        self.assertEqual(asker_text(Asker("abcdefghij", ["z", "zz", "b"], 10)), "abcdefghij 10: b, z, zz")

    def test_lines(self):
        self.assertEqual(line_text(Line([])), "")
        self.assertEqual(line_text(Line([bob()])), "bob 2: a")
        self.assertEqual(line_text(line=trio()), "ann 3: a, ab\nbob 2: a\ncat 4: ab, b, c")
        self.assertEqual(line_text(trio().moved("cat", 0)), "cat 4: ab, b, c\nann 3: a, ab\nbob 2: a")

    def test_stocks(self):
        self.assertEqual(stock_text({"b": 2, "a": 10, "c": 0, "ab": 1}), "a 10, ab 1, b 2")
        self.assertEqual([stock_text({}), stock_text({"a": 0}), stock_text(stock={"none": 1})], ["none", "none", "none 1"])

    def test_deals(self):
        self.assertEqual(deal_text([("bob", 0), ("ann", 10)]), "bob 0, ann 10")
        self.assertEqual([deal_text([]), deal_text(deal=[("nobody", 0)])], ["nobody", "nobody 0"])

    def test_refused(self):
        cases = [
            (asker_text, InvalidAsker, is_asker), (line_text, InvalidLine, is_line),
            (stock_text, InvalidStock, is_right_stock), (deal_text, InvalidDeal, is_right_deal),
        ]
        for function, error, right in cases:
            for value in strange_but(right):
                with self.subTest(function=function.__name__, value=repr_of(value)):
                    self.refused(error, value, function, value)

    def test_no_deals(self):
        wrong = [
            [("ann", 1), ("ann", 1)], [("ann", 1), ("bob", 1), ("ann", 2)], [("ann", -1)], [("ann", True)], [("ann",)],
            [("ann", 1, 1)], [("ann", None)], [(1, "ann")], [["ann", 1]], (("ann", 1),), {"ann": 1}, ("ann", 1), [()],
            [("ann", 1), None], [(["ann"], 1)], [(ann(), 1)], "ann 1", [("ann", "1")],
        ] + [[(name, 1)] for name in BAD_NAMES] + [[("bob", 2), (name, 1)] for name in BAD_NAMES]
        for value in wrong:
            with self.subTest(value=repr_of(value)):
                self.refused(InvalidDeal, value, deal_text, value)


class Readers(ElderCase):
    def test_back_again(self):
        numbers = [1, 9, 10, 100, 10 ** 17, 10 ** 18 - 1, 10 ** 18, 10 ** 18 + 1, 10 ** 29, BIG, 10 ** 36, 10 ** 36 + 10 ** 18]
        for most in numbers:
            asker = Asker("ann", ["b", "a", "none"], most)
            self.assertEqual(asker_text(asker), f"ann {most}: a, b, none")
            self.assertEqual(read_asker(asker_text(asker)), asker)
            line = Line([cat(), asker, Asker("nobody", ["a"], most)])
            self.assertEqual(read_line(line_text(line)), line)
            self.assertEqual(stock_text({"b": most, "a": most + 1}), f"a {most + 1}, b {most}")
            self.assertEqual(read_stock(f"a {most + 1}, b {most}"), {"a": most + 1, "b": most})
            deal = [("z", most), ("none", 0), ("nobody", most - 1)]
            self.assertEqual(deal_text(deal), f"z {most}, none 0, nobody {most - 1}")
            self.assertEqual(read_deal(text=deal_text(deal)), deal)

    def test_numbers_far_beyond_the_limits(self):
        for zeros in (4299, 4300, 5000):
            digits = "1" + "0" * (zeros - 1) + "7"
            number = 10 ** zeros + 7
            self.assertEqual(asker_text(Asker("ann", ["a"], number)), f"ann {digits}: a")
            self.assertTrue(read_asker(f"ann {digits}: a") == Asker("ann", ["a"], number))
            self.assertEqual(stock_text(read_stock(f"a {digits}")), f"a {digits}")
            self.assertEqual(deal_text(read_deal(f"ann {digits}")), f"ann {digits}")

    def test_of_nothing(self):
        self.assertEqual(read_line(text=""), Line([]))
        self.assertEqual([read_stock(text="none"), read_deal("nobody")], [{}, []])
        for reader in (read_asker, read_stock, read_deal):
            self.refused(InvalidText, "", reader, "")

    def test_words_in_the_place_of_names(self):
        self.assertEqual(read_stock("nobody 2, none 1"), {"none": 1, "nobody": 2})
        self.assertEqual(read_deal("nobody 2, none 0"), [("nobody", 2), ("none", 0)])
        self.assertEqual(read_asker("none 1: nobody, none"), Asker("none", ["none", "nobody"], 1))
        for reader, texts in (
            (read_stock, ["nobody", "none, a 1", "a 1, none", "none, none", "None", "none ", " none", "none\n"]),
            (read_deal, ["none", "nobody, ann 1", "ann 1, nobody", "nobody, nobody", "nobody ", "nobody\n"]),
            (read_asker, ["none", "nobody"]), (read_line, ["none", "nobody", "\n"]),
        ):
            for text in texts:
                with self.subTest(reader=reader.__name__, text=text):
                    self.refused(InvalidText, text, reader, text)

    def test_what_the_texts_of_the_point_rule_out(self):
        wrong = {
            read_asker: [
                "ann 03: a", "ann 0: a", "ann -3: a", "ann +3: a", "ann 3:a", "ann 3 : a", "ann  3: a", "ann 3:  a",
                "ann 3: b, a", "ann 3: a, a", "ann 3: a,b", "ann 3: a, ", "ann 3: , a", "ann 3: ", "ann 3:", "ann 3",
                "ann: a", "3: a", "ann 3: a\n", "\nann 3: a", " ann 3: a", "Ann 3: a", "ann 3: A", "ann 1_0: a",
                "abcdefghijk 3: a", "ann 3: abcdefghijk", "ann 3: a: b", "ann 3 3: a", "ann 3.0: a", "ann 3: a,, b",
                "ann \u00b2: a", "ann \u0663: a", "ann 0x3: a", "ann 3: a b", " 3: a", "ann : a",
            ],
            read_line: [
                "ann 3: a\n", "\nann 3: a", "ann 3: a\n\nbob 2: a", "ann 3: a\nann 3: a", "ann 3: a\nann 2: b", "\n", " ",
                "ann 3: a\r\nbob 2: a", "ann 3: a\nbob 0: a", "ann 3: a bob 2: a", "ann 3: a, bob 2: a",
            ],
            read_stock: [
                "a 0", "a 1, b 0", "b 1, a 1", "a 1, a 1", "a 1, a 2", "a 01", "a -1", "a +1", "a 1,b 1", "a 1, ", "a 1,",
                ", a 1", "a  1", "a 1 ", " a 1", "a 1\n", "A 1", "a", "1", "a one", "a 1 1", "abcdefghijk 1", "a 1; b 1",
            ],
            read_deal: [
                "ann 1, ann 1", "ann 1, ann 2", "ann 1, bob 0, ann 1", "ann 00", "ann 01", "ann -0", "ann +1", "ann 1,bob 1",
                "ann 1, ", "ann 1,", ", ann 1", "ann  1", "ann 1 ", " ann 1", "ann 1\n", "Ann 1", "ann", "1", "ann 1 1",
            ],
        }
        for reader, texts in wrong.items():
            for text in texts:
                with self.subTest(reader=reader.__name__, text=text):
                    self.refused(InvalidText, text, reader, text)

    def judged(self, texts):
        for text in texts:
            for reader, writer, judge in JUDGES:
                if judge(text):
                    self.assertEqual(writer(reader(text)), text)
                else:
                    self.refused(InvalidText, text, reader, text)

    def test_bent_texts(self):
        texts = ["ann 30: a, ab", "a 10, b 2", "ann 3, bob 0", "ann 3: a\nbob 1: b", "none", "nobody", "none 1, z 20"]
        for text in texts:
            self.judged(sorted(set(bent(text))))

    def test_all_short_texts(self):
        for many in range(5):
            self.judged("".join(signs) for signs in itertools.product("a1 0,:", repeat=many))

    def test_orders_of_parts(self):
        for parts in itertools.permutations(["a 1", "ab 20", "b 3"]):
            self.judged([", ".join(parts)])
        for kinds in itertools.product(["a", "ab", "b"], repeat=3):
            self.judged(["ann 1: " + ", ".join(kinds)])

    def test_no_texts(self):
        for value in strange_but(lambda value: type(value) is str) + [["ann 3: a"], ("none",), b"none", 3]:
            for reader, _, _ in JUDGES:
                with self.subTest(reader=reader.__name__, value=repr_of(value)):
                    self.refused(InvalidText, value, reader, value)

    def test_strange_strings(self):
        self.judged([value for value in strange() if type(value) is str])

    def test_results_are_new(self):
        read_stock("a 1")["a"] = 2
        read_deal("ann 1").append(("bob", 1))
        read_stock("none")["a"] = 1
        read_deal("nobody").append(("bob", 1))
        told = [read_stock("a 1"), read_deal("ann 1"), read_stock("none"), read_deal("nobody")]
        self.assertEqual(told, [{"a": 1}, [("ann", 1)], {}, []])

    def test_arguments_stay(self):
        stock, deal = {"b": 1, "a": 0}, [("bob", 1), ("ann", 0)]
        stock_text(stock)
        deal_text(deal)
        self.assertEqual((list(stock.items()), deal), ([("b", 1), ("a", 0)], [("bob", 1), ("ann", 0)]))
