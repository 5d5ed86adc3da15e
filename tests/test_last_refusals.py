"""[1], [2], [5]: each argument of the functions of sections 13 to 16 wrong in turn, and two wrong at once."""

from elderlink import early, live, scripts, worth
from elderlink.errors import InvalidKind, InvalidLine, InvalidLog, InvalidNumbers, InvalidScript, InvalidStock, InvalidText
from elderlink.errors import InvalidWorths, NotEnough
from elderlink.house import Asker, Line
from tests.refusing import RefusalCase
from tests.samples import ElderCase, dan, is_line, is_right_name, is_right_stock, nested, repr_of, spoiled, strange, strange_but
from tests.samples import trio
from tests.scripting import gives, is_right_script
from tests.test_again import script, worths
from tests.test_early import is_right_early
from tests.test_refusals import CAT, LINE, NAME, STOCK
from tests.test_trials import LENGTHS
from tests.test_worth import is_right_prices

LINES = Line([Asker("ann", ["a", "b"], 1), Asker("bob", ["a"], 2), Asker("cat", ["a"], 1)])


def are_worths(value):
    return type(value) is dict and set(value) == set(worths()) and all(type(number) is int for number in value.values())


def are_numbers(value):
    return type(value) is list and len(value) == 3 and all(type(number) is int for number in value)


def is_plain_script(value):
    return is_right_script(value) and not gives(value)


def is_log(value):
    return type(value) is list and all(
        type(part) is tuple and part and type(part[0]) is str and LENGTHS.get(part[0]) == len(part) for part in value)


def is_text(value):
    return type(value) is str and value == ""


WORTHS = ("worths", worths(), InvalidWorths, are_worths, [{**worths(), ("ann", "b"): 1}, {**worths(), ("cat", "c"): True}])
FIRST = ("first", {"a": 2, "b": 0}, InvalidStock, is_right_stock, [{"a": -1}, [("a", 1)]])
LATER = ("later", {"b": 1}, InvalidStock, is_right_stock, [{"a": True}])
KIND = ("kind", "b", InvalidKind, is_right_name, ["B", ["b"]])
ONE = ("one", script(), InvalidScript, is_plain_script, [[("give",)], [("try", [("give",)])], (("deal",),)])
OTHER = ("other", [("deal",)], *ONE[2:])
WHOLE = ("script", script(), InvalidScript, is_right_script, [[("give", 1)], [["give"]], (("give",),)])

CALLS = [
    (worth.best_worth, [LINE, STOCK, WORTHS]),
    (worth.best_spread, [LINE, STOCK, WORTHS]),
    (worth.prices, [LINE, STOCK, WORTHS]),
    (worth.check_prices, [LINE, STOCK, WORTHS, "value"]),
    (worth.least_prices, [LINE, STOCK, WORTHS]),
    (worth.greatest_prices, [LINE, STOCK, WORTHS]),
    (worth.best_of_deal, [LINE, STOCK, WORTHS]),
    (worth.spread_of_deal, [LINE, STOCK, WORTHS]),
    (worth.rank_costs, [LINE, STOCK, WORTHS]),
    (worth.by_asker, [LINE, ("numbers", [3, 0, -2], InvalidNumbers, are_numbers, [[3, 0], (3, 0, -2), [3, 0, True]])]),
    (early.in_steps, [LINE, FIRST, LATER]),
    (early.early_pairs, [LINE]),
    (early.early_matters, [LINE]),
    (early.check_early, [LINE, "value"]),
    (early.fit_harms, [LINE, NAME, KIND]),
    (early.fit_stock, [LINE, NAME, KIND, ("other", *CAT[1:])]),
    (early.winner, [LINE, STOCK, NAME]),
    (early.merged, [LINE, NAME]),
    (early.gathered, [LINE]),
    (live.House, [LINE, STOCK]),
    (live.replayed, [LINE, STOCK, ("log", [("bring", "a", 1)], InvalidLog, is_log, [[("bring", "a")], [("undo",)], ("give",)])]),
    (scripts.script_text, [WHOLE]),
    (scripts.read_script, [("text", "", InvalidText, is_text, ["\n", "give ", "try"])]),
    (scripts.same_end, [LINE, ONE, OTHER]),
    (scripts.parting_stock, [LINE, ONE, OTHER]),
    (scripts.trimmed, [LINE, ("script", *ONE[1:])]),
]


class LastRefusals(RefusalCase):
    calls = CALLS

    def test_a_strange_object_in_each_place_of_what_a_check_is_asked(self):
        stock = {"a": 2, "ab": 1, "c": 3}
        for value in spoiled(worth.prices(trio(), stock, worths())):
            kept = repr_of(value)
            self.assertIs(worth.check_prices(trio(), stock, worths(), value), is_right_prices(trio(), stock, worths(), value))
            self.assertEqual(repr_of(value), kept)
        for value in spoiled(early.early_matters(LINES)):
            kept = repr_of(value)
            self.assertIs(early.check_early(LINES, value), is_right_early(LINES, value))
            self.assertEqual(repr_of(value), kept)


class Houses(ElderCase):
    """Each method with any object in each place: it makes the change, or raises an error and changes nothing."""

    def test_any_object(self):
        made = 0
        for method, goods in (("bring", ["a", 1]), ("lose", ["a", 1]), ("join", [dan(), 1]), ("leave", ["ann"]), ("move", ["ann", 1]),
                              ("order", [["cat", "ann", "bob"]])):
            for at in range(len(goods)):
                for value in [*strange(), *spoiled(goods[at])]:
                    house = live.House(trio(), {"a": 2})
                    kept = repr_of(house)
                    told = [*goods[:at], value, *goods[at + 1:]]
                    try:
                        rows = getattr(house, method)(*told)
                    except NotEnough:
                        self.assertEqual(repr_of(house), kept)
                    except ValueError as error:
                        self.assertIs(error.value, value.name if type(error).__name__ == "TakenName" else value)
                        self.assertEqual(repr_of(house), kept)
                    else:
                        made += 1
                        self.assertEqual((repr_of(house.log()), type(rows)), (repr_of([(method, *told)]), list))
        self.assertGreater(made, 20)

    def test_scripts_at_each_depth(self):
        for value in strange_but(is_right_script):
            house = live.House(trio(), {})
            for depth in range(5):
                told = value
                for _ in range(depth):
                    told = [("deal",), ("try", told)]
                self.refused(InvalidScript, told, scripts.play, house, told)
                self.refused(InvalidScript, told, scripts.script_text, told)
                self.refused(InvalidScript, told, scripts.trimmed, trio(), told)
            self.assertEqual(house.log(), [])
        for value in strange_but(is_line):
            self.refused(InvalidLine, value, live.replayed, value, {}, nested(3))

