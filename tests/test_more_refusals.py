"""[1], [2], [5]: each argument of the functions of sections 9 to 12 wrong in turn, and two wrong at once."""

from elderlink import claims, days, gains, shares
from elderlink.errors import InvalidCount, InvalidDayLine, InvalidDays, InvalidDeal, InvalidKeeps, InvalidKind, InvalidLine
from elderlink.errors import InvalidRanks, InvalidShares, InvalidStock, InvalidSupplies, InvalidTold, UnknownName, Unlike
from elderlink.house import Asker, Line
from tests.refusing import RefusalCase
from tests.samples import ann, bob, cat, dan, is_day_line, is_ranks, is_right_count, is_right_name, is_right_stock
from tests.samples import repr_of, spoiled, strange, strange_but, trio
from tests.rankings import are_right_shares
from tests.test_claims import is_right_book
from tests.test_days import are_right_supplies
from tests.test_refusals import LINE, NAME, OTHER, STOCK, is_of_line

RANKS = shares.Ranks([[ann(), bob()], [cat()]])
TURNED = shares.Ranks([[ann()], [cat(), bob()]])
DAY_LINE = days.DayLine(trio(), {"a": 1, "ab": 1, "b": 2, "c": 1}, {"ann": 1, "bob": 0, "cat": 2})
TOLD = {"a": 2, "b": 1}


def is_high(value):
    return is_right_stock(value) and value.get("a", 0) >= 2


def is_wish(value):
    return is_right_count(value) and value <= 3


def is_book(value):
    return is_right_book(trio(), value)


def are_shares(value):
    return are_right_shares(RANKS, value)


def are_supplies(value):
    return are_right_supplies(DAY_LINE, value)


def is_whole_deal(value):
    return repr_of(value) in [repr_of([("ann", one), ("bob", 2 - one), ("cat", 1)]) for one in range(3)]


def are_keeps(value):
    return type(value) is dict and set(value) >= set(trio().kinds()) and all(is_right_count(count) for count in value.values())


def are_days(value):
    return type(value) is dict and set(value) == set(trio().names()) and all(is_right_count(count) for count in value.values())


KIND = ("kind", "a", InvalidKind, is_right_name, ["A", ["a"], "a "])
ONE_KIND = ("one", "a", InvalidKind, is_right_name, ["A", ("a",)])
OTHER_KIND = ("other", "b", InvalidKind, is_right_name, ["B", {"b": 1}])
WISH = ("wish", 2, InvalidCount, is_wish, [4, -1, True])
LOW = ("low", {"a": 2, "z": 0}, InvalidStock, is_right_stock, [{"a": -1}])
HIGH = ("high", {"a": 3}, InvalidStock, is_high, [{"a": 1}, {"b": 9}])
CLASSES = ("ranks", RANKS, InvalidRanks, is_ranks, [[[ann()]], trio()])
ONE_RANKS = ("one", RANKS, InvalidRanks, is_ranks, [[[ann()]], trio()])
OTHER_RANKS = ("other", TURNED, InvalidRanks, is_ranks, [[[ann()]]])
SHARES = ("shares", [("ann", (1, 1)), ("bob", (1, 2)), ("cat", (0, 1))], InvalidShares, are_shares, [
    [("ann", (2, 2)), ("bob", (1, 2)), ("cat", (0, 1))], [("ann", (1, 1)), ("bob", (1, 2))], [("ann", 1), ("bob", 1), ("cat", 1)]])
WHOLE = ("told", [("ann", 1), ("bob", 1), ("cat", 1)], InvalidDeal, is_whole_deal, [
    [("ann", 2), ("bob", 1), ("cat", 1)], [("ann", 1), ("bob", 1), ("cat", 0)], [("bob", 1), ("ann", 1), ("cat", 1)]])
BOOK = ("book", [({"a": 3}, [("ann", 3), ("bob", 0), ("cat", 0)])], InvalidTold, is_book, [
    [({"a": 3}, [("ann", 3), ("bob", 0)])], [[{"a": 3}, [("ann", 3), ("bob", 0), ("cat", 0)]]], [({"a": 3},)]])
STUCK_BOOK = ("book", [({"a": 3}, [("ann", 1), ("bob", 1), ("cat", 0)])], *BOOK[2:])
DAYS = ("day_line", DAY_LINE, InvalidDayLine, is_day_line, [trio(), (trio(), {}, {})])
SUPPLIES = ("supplies", {("a", 0): 2, ("ab", 1): 1}, InvalidSupplies, are_supplies, [{("d", 0): 1}, {("a", True): 1}, {"a": 1}])
RANKS_STOCK = ("stock", TOLD, *STOCK[2:])

CALLS = [
    (gains.gainer, [LINE, STOCK, KIND]),
    (gains.loser, [LINE, STOCK, KIND]),
    (gains.gain_way, [LINE, STOCK, KIND]),
    (gains.check_way, [LINE, STOCK, KIND, "value"]),
    (gains.can_help, [LINE, KIND]),
    (gains.help_stock, [LINE, KIND, NAME]),
    (gains.between, [LINE, LOW, HIGH]),
    (gains.least_stock, [LINE, NAME, WISH]),
    (gains.least_help, [LINE, STOCK, NAME, WISH]),
    (gains.spare, [LINE, STOCK]),
    (gains.waits_for, [LINE, NAME]),
    (gains.same_kinds, [LINE, ONE_KIND, OTHER_KIND]),
    (gains.payer, [LINE, STOCK, NAME]),
    (shares.class_sums, [CLASSES, STOCK]),
    (shares.fair, [CLASSES, STOCK]),
    (shares.blocks, [CLASSES, STOCK]),
    (shares.unfair, [CLASSES, STOCK, SHARES]),
    (shares.check_unfair, [CLASSES, STOCK, SHARES, "value"]),
    (shares.even, [CLASSES, STOCK]),
    (shares.even_rows, [CLASSES, STOCK]),
    (shares.check_even, [CLASSES, STOCK, "value"]),
    (shares.evener, [CLASSES, RANKS_STOCK, WHOLE]),
    (shares.span, [CLASSES, STOCK]),
    (shares.parted, [CLASSES]),
    (shares.alike_ranks, [ONE_RANKS, OTHER_RANKS]),
    (shares.parting_ranks, [ONE_RANKS, OTHER_RANKS]),
    (shares.check_parting_ranks, [ONE_RANKS, OTHER_RANKS, "value"]),
    (shares.harmed_shares, [ONE_RANKS, OTHER_RANKS, STOCK]),
    (claims.order_for, [LINE, BOOK]),
    (claims.stuck, [LINE, BOOK]),
    (claims.check_stuck, [LINE, STUCK_BOOK, "value"]),
    (claims.count_orders, [LINE, BOOK]),
    (claims.must, [LINE, BOOK]),
    (claims.nearest, [LINE, BOOK]),
    (claims.first_wronged, [LINE, BOOK]),
    (claims.lesson, [LINE]),
    (claims.unlike_deals, [LINE, STOCK]),
    (claims.count_deals, [LINE, STOCK]),
    (claims.bounds, [LINE, STOCK]),
    (claims.means, [LINE, STOCK]),
    (days.DayLine, [LINE, ("keeps", {"a": 0, "ab": 1, "b": 2, "c": 1}, InvalidKeeps, are_keeps, [{"a": 0}]),
                    ("days", {"ann": 0, "bob": 1, "cat": 2}, InvalidDays, are_days, [{"ann": 0}])]),
    (days.cells, [DAYS]),
    (days.unrolled, [DAYS]),
    (days.day_order, [DAYS]),
    (days.foreseen, [DAYS, SUPPLIES]),
    (days.by_days, [DAYS, SUPPLIES]),
    (days.so_far, [DAYS, SUPPLIES, ("day", 1, InvalidCount, is_right_count, [-1, True])]),
    (days.alike_days, [DAYS]),
    (days.later_matters, [DAYS]),
    (days.check_later, [DAYS, "value"]),
    (days.handed, [DAYS, SUPPLIES]),
    (days.handed_deal, [DAYS, SUPPLIES]),
    (days.unused, [DAYS, SUPPLIES]),
    (days.foresight, [DAYS, SUPPLIES]),
]


class MoreRefusals(RefusalCase):
    calls = CALLS

    def test_a_strange_object_in_each_place_of_what_a_check_is_asked(self):
        for function, goods, right in (
            (gains.check_way, [trio(), {"a": 1}, "a"], gains.gain_way(trio(), {"a": 1}, "a")),
            (gains.check_way, [trio(), {"a": 3}, "ab"], gains.gain_way(trio(), {"a": 3}, "ab")),
            (shares.check_unfair, [RANKS, TOLD, SHARES[1]], shares.unfair(RANKS, TOLD, SHARES[1])),
            (shares.check_unfair, [RANKS, {}, SHARES[1]], shares.unfair(RANKS, {}, SHARES[1])),
            (shares.check_unfair, [RANKS, {"a": 2}, [("ann", (2, 1)), ("bob", (0, 1)), ("cat", (0, 1))]], ("raise", "bob", "ann")),
            (shares.check_even, [RANKS, TOLD], shares.even(RANKS, TOLD)),
            (shares.check_parting_ranks, [RANKS, TURNED], shares.parting_ranks(RANKS, TURNED)),
            (claims.check_stuck, [trio(), STUCK_BOOK[1]], claims.stuck(trio(), STUCK_BOOK[1])),
            (days.check_later, [DAY_LINE], days.later_matters(DAY_LINE)),
        ):
            self.assertIs(function(*goods, right), True)
            for value in spoiled(right):
                kept = repr_of(value)
                self.assertIs(type(function(*goods, value)), bool)
                if not type(value) is type(right):
                    self.assertIs(function(*goods, value), False)
                self.assertEqual(repr_of(value), kept)

    def test_unlike_behind_both(self):
        other = shares.Ranks([[ann(), dan()]])
        for value in strange_but(is_ranks):
            self.refused(InvalidRanks, value, shares.alike_ranks, other, value)
        self.refused(Unlike, other, shares.check_parting_ranks, RANKS, other, None)
        self.assertEqual(shares.harmed_shares(RANKS, other, {}), [])

    def test_the_empty_line(self):
        for value in strange():
            for function in (gains.waits_for, gains.least_stock, gains.least_help, gains.payer):
                rest = {gains.waits_for: [], gains.least_stock: [None], gains.least_help: [None], gains.payer: []}[function]
                ahead = [Line([]), {}] if function in (gains.least_help, gains.payer) else [Line([])]
                self.refused(UnknownName, value, function, *ahead, value, *rest)
            if not is_right_name(value):
                self.refused(InvalidKind, value, gains.help_stock, Line([]), value, None)
            self.refused(UnknownName, value, gains.help_stock, Line([]), "a", value)

    def test_unknown_names_of_other_lines(self):
        line = trio().without("ann")
        for name in ("ann", "dan", "annn", "an"):
            self.refused(UnknownName, name, gains.payer, line, {"a": 1}, name)
            self.refused(UnknownName, name, gains.least_stock, line, name, 99)
        self.assertTrue(is_of_line("ann") and OTHER[1] == trio().moved("cat", 0) and len(line) == 2)
        self.assertEqual(gains.waits_for(Line([Asker("ann", ["a"], 1)]), "ann"), [])
        self.refused(InvalidLine, None, gains.spare, None, None)
