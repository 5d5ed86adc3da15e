"""What several test files need: the askers of the document, strange objects, and how refusals are judged."""

import copy
import unittest

from elderlink.days import DayLine
from elderlink.errors import ElderError, InvalidAsker
from elderlink.house import Asker, Line
from elderlink.live import House, Trial
from elderlink.shares import Ranks

GOOD_NAMES = ["a", "z", "ann", "none", "nobody", "abcdefghij"]
BAD_NAMES = [
    "", "abcdefghijk", "Ann", "ANN", "a1", "1", "a b", " a", "a ", "a\n", "a,", "a_", "a-b", "\u00e9", "\u0430",
    None, True, False, 0, 1, [], ["a"], (), ("a",), {}, {"a": 1},
]
BIG = 10 ** 30 - 1
HUGE = 10 ** 5000 + 7


def ann():
    return Asker("ann", ["ab", "a"], 3)


def bob():
    return Asker("bob", ["a"], 2)


def cat():
    return Asker("cat", ["b", "ab", "c"], 4)


def dan():
    return Asker("dan", ["d"], 1)


def trio():
    return Line([ann(), bob(), cat()])


def nested(depth):
    value = []
    for _ in range(depth):
        value = [value]
    return value


def strange():
    """Objects of all sorts; each test leaves out those that are right in its place."""
    return BAD_NAMES + GOOD_NAMES + [
        -1, BIG, [None], [[]], [True], ["a", "a"], ["a", 1], ("ann", 1), [("ann", 1)], [["ann", 1]],
        {"a": True}, {"a": -1}, {"a": None}, {"A": 1}, {"": 1}, {1: 1}, {None: 1}, {True: 1}, {("a",): 1}, {"a": "a"},
        {"a": {}}, {"a": 1, "b": "c"}, ann(), trio(), Line([]), [ann()], (ann(),), [trio()], {"ann": ann()},
        InvalidAsker("a"), nested(40), Ranks([[ann()], [bob()]]), DayLine(Line([bob()]), {"a": 1}, {"bob": 2}),
        House(trio(), {"a": 1}),
    ]


def is_right_name(value):
    """The tests' own judgement, apart from the program's."""
    letters = "abcdefghijklmnopqrstuvwxyz"
    return type(value) is str and 1 <= len(value) <= 10 and all(sign in letters for sign in value)


def is_right_count(value):
    return type(value) is int and value >= 0


def is_right_names(value):
    if type(value) is not list or not all(is_right_name(name) for name in value):
        return False
    return all(value.count(name) == 1 for name in value)


def is_right_stock(value):
    return type(value) is dict and all(is_right_name(kind) and is_right_count(value[kind]) for kind in value)


def strange_but(right):
    """The strange objects for which a judgement does not hold."""
    return [value for value in strange() if not right(value)]


def is_asker(value):
    return type(value) is Asker


def is_line(value):
    return type(value) is Line


def is_ranks(value):
    return type(value) is Ranks


def is_day_line(value):
    return type(value) is DayLine


def spoiled(value):
    """A value with a strange object in each of its places in turn, however deep."""
    yield from strange()
    if type(value) in (list, tuple):
        for at, item in enumerate(value):
            for other in spoiled(item):
                yield type(value)([*value[:at], other, *value[at + 1:]])
    if type(value) is dict:
        for key in value:
            rest = {other: value[other] for other in value if other != key}
            for other in spoiled(value[key]):
                yield {**rest, key: other}
            for other in spoiled(key):
                if is_key(other):
                    yield {**rest, other: value[key]}


def is_key(value):
    try:
        hash(value)
    except TypeError:
        return False
    return True


class ElderCase(unittest.TestCase):
    def refused(self, error, value, action, *told, **named):
        """The call raises just this error with this very value, and changes none of its arguments."""
        kept = copy.deepcopy((told, named))
        with self.assertRaises(ElderError) as caught:
            action(*told, **named)
        self.assertIs(type(caught.exception), error)
        self.assertIs(caught.exception.value, value)
        self.assertEqual(repr_of((told, named)), repr_of(kept))


def repr_of(value):
    """A value written out, the askers and lines in it too, so that True and 1 are not alike."""
    if is_asker(value):
        return f"Asker{(value.name, value.fits, value.most)!r}"
    if is_line(value):
        return f"Line[{', '.join(repr_of(asker) for asker in value.askers())}]"
    if isinstance(value, (ElderError, Ranks, DayLine, House, Trial)):
        return f"{type(value).__name__}({repr_of(vars(value))})"
    if isinstance(value, (list, tuple)):
        return f"{type(value).__name__}[{', '.join(repr_of(item) for item in value)}]"
    if isinstance(value, dict):
        return f"dict[{', '.join(f'{repr_of(key)}: {repr_of(item)}' for key, item in value.items())}]"
    if type(value) is int:
        return hex(value)
    return repr(value)
