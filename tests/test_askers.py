"""[30]: askers, what they are made of, and when two are equal."""

import itertools

from elderlink.errors import InvalidAsker
from elderlink.house import Asker, Line
from tests.samples import BAD_NAMES, BIG, ElderCase, GOOD_NAMES, HUGE, ann, is_right_name, is_right_names, repr_of
from tests.samples import strange_but


class Askers(ElderCase):
    def test_parts(self):
        asker = Asker("ann", ["ab", "c", "a"], 3)
        self.assertEqual((asker.name, asker.fits, asker.most), ("ann", ["a", "ab", "c"], 3))
        self.assertEqual([type(asker.name), type(asker.fits), type(asker.most)], [str, list, int])

    def test_parts_by_name(self):
        for asker in (Asker(name="ann", fits=["a"], most=2), Asker(most=2, fits=["a"], name="ann")):
            self.assertEqual(asker, Asker("ann", ["a"], 2))

    def test_good_names(self):
        for name in GOOD_NAMES:
            asker = Asker(name, [name], 1)
            self.assertEqual((asker.name, asker.fits), (name, [name]))

    def test_bad_names(self):
        for value in strange_but(is_right_name):
            with self.subTest(value=repr_of(value)):
                self.refused(InvalidAsker, value, Asker, value, ["a"], 1)

    def test_bad_fits(self):
        for value in strange_but(lambda value: is_right_names(value) and value != []):
            with self.subTest(value=repr_of(value)):
                self.refused(InvalidAsker, value, Asker, "ann", value, 1)
        for name in BAD_NAMES:
            for fits in ([name], ["a", name], [name, "a"]):
                with self.subTest(fits=fits):
                    self.refused(InvalidAsker, fits, Asker, "ann", fits, 1)
        for fits in (["a", "a"], ["b", "a", "b"]):
            self.refused(InvalidAsker, fits, Asker, "ann", fits, 1)

    def test_bad_mosts(self):
        for value in strange_but(lambda value: type(value) is int and value >= 1):
            with self.subTest(value=repr_of(value)):
                self.refused(InvalidAsker, value, Asker, "ann", ["a"], value)
        for value in (0, -1, -BIG, True, False, "1", 1.0):
            self.refused(InvalidAsker, value, Asker, "ann", ["a"], value)

    def test_mosts_of_any_length(self):
        for most in (1, 2, BIG, HUGE):
            self.assertEqual(Asker("ann", ["a"], most).most, most)

    def test_first_wrong_argument_is_told(self):
        self.refused(InvalidAsker, "Ann", Asker, "Ann", (), 0)
        fits = ("a",)
        self.refused(InvalidAsker, fits, Asker, "ann", fits, 0)
        self.refused(InvalidAsker, fits, Asker, most=True, fits=fits, name="ann")

    def test_equal_by_the_parts_alone(self):
        made = [
            (name, fits, most)
            for name in ("ann", "bob") for fits in (["a"], ["b"], ["a", "b"], ["ab"]) for most in (1, 2)
        ]
        for one, other in itertools.product(made, made):
            with self.subTest(one=one, other=other):
                self.assertEqual(Asker(*one) == Asker(*other), one == other)
                self.assertEqual(Asker(*one) != Asker(*other), one != other)

    def test_order_of_the_fits_means_nothing(self):
        for fits in itertools.permutations(["a", "ab", "b"]):
            asker = Asker("ann", list(fits), 1)
            self.assertEqual(asker, Asker("ann", ["a", "ab", "b"], 1))
            self.assertEqual(asker.fits, ["a", "ab", "b"])

    def test_never_equal_to_another_class(self):
        for value in strange_but(lambda value: type(value) is Asker):
            with self.subTest(value=repr_of(value)):
                self.assertIs(ann() == value, False)
                self.assertIs(value == ann(), False)
                self.assertIs(ann() != value, True)
        self.assertIs(ann() == Line([ann()]), False)
        self.assertIs(ann() == ("ann", ["a", "ab"], 3), False)

    def test_lists_are_no_doors(self):
        fits = ["b", "a"]
        asker = Asker("ann", fits, 1)
        self.assertEqual(fits, ["b", "a"])
        fits.append("c")
        self.assertEqual(asker.fits, ["a", "b"])
        asker.fits.append("d")
        asker.fits[0] = "e"
        asker.fits.clear()
        self.assertEqual(asker.fits, ["a", "b"])
        self.assertIsNot(asker.fits, asker.fits)
        self.assertEqual(asker, Asker("ann", ["a", "b"], 1))

    def test_parts_cannot_be_set(self):
        asker = ann()
        for part in ("name", "fits", "most"):
            with self.subTest(part=part), self.assertRaises(AttributeError):
                setattr(asker, part, getattr(asker, part))
