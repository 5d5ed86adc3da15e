"""[1], [2], [5]: each argument of many functions wrong in turn, and two wrong at once."""

from tests.samples import ElderCase, repr_of, strange, strange_but

ANYTHING = [None, 0, {}, "ann", [["ann"]]]


def name_of(part):
    return part if isinstance(part, str) else part[0]


def good_of(part):
    return None if isinstance(part, str) else part[1]


class RefusalCase(ElderCase):
    """Goes through calls: tuples of a function and its parameters.

    A parameter is a tuple of its name, a right value, the error for a wrong one, whether a value is right, and more
    wrong values; or just its name, if any object may be passed.
    """

    calls = []

    def test_each_argument_wrong_in_turn(self):
        for function, parts in self.calls:
            goods = [good_of(part) for part in parts]
            for at, part in enumerate(parts):
                if isinstance(part, str):
                    continue
                _, _, error, right, more = part
                for value in strange_but(right) + more:
                    with self.subTest(function=function.__name__, at=at, value=repr_of(value)):
                        self.refused(error, value, function, *goods[:at], value, *goods[at + 1:])

    def test_two_wrong_at_once(self):
        for function, parts in self.calls:
            goods = [good_of(part) for part in parts]
            for at, part in enumerate(parts[:-1]):
                if isinstance(part, str):
                    continue
                _, _, error, right, more = part
                for value in strange_but(right)[::7] + more[:2]:
                    for wrong in ANYTHING:
                        rest = [wrong] * (len(parts) - at - 1)
                        self.refused(error, value, function, *goods[:at], value, *rest)

    def test_arguments_by_name(self):
        for function, parts in self.calls:
            goods = {name_of(part): good_of(part) for part in parts}
            backwards = dict(reversed(list(goods.items())))
            self.assertEqual(repr_of(function(**backwards)), repr_of(function(*goods.values())))
            for part in parts:
                if not isinstance(part, str):
                    self.refused(part[2], None, lambda: function(**{**backwards, part[0]: None}))

    def test_any_object_in_the_last_place_of_a_check(self):
        for function, parts in self.calls:
            if isinstance(parts[-1], str):
                goods = [good_of(part) for part in parts[:-1]]
                kept = repr_of(goods)
                for value in strange():
                    told = repr_of(value)
                    self.assertIs(type(function(*goods, value)), bool)
                    self.assertIs(type(function(*goods, [value])), bool)
                    self.assertIs(type(function(*goods, (value, value, value))), bool)
                    self.assertIs(type(function(*goods, (value, value))), bool)
                    self.assertEqual(repr_of(value), told)
                self.assertEqual(repr_of(goods), kept)
