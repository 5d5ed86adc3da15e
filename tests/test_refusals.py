"""[1], [2], [5]: each argument of the functions of sections 5 to 8 wrong in turn, and two wrong at once."""

from elderlink import costs, deals, orders, papers
from elderlink.errors import InvalidAsker, InvalidCount, InvalidDeal, InvalidLine, InvalidNames, InvalidStock
from elderlink.errors import UnknownName
from elderlink.house import Asker, Line
from tests.refusing import RefusalCase
from tests.samples import is_asker, is_line, is_right_count, is_right_names, is_right_stock, strange, trio
from tests.ways import are_right_counts

NAMES = ["ann", "bob", "cat"]
NEW = Asker("dan", ["a"], 1)


def is_of_line(value):
    return type(value) is str and value in NAMES


def are_of_line(value):
    return is_right_names(value) and all(name in NAMES for name in value)


def are_elders_of_cat(value):
    return are_of_line(value) and "cat" not in value


def is_elder_of_cat(value):
    return type(value) is str and value in ("ann", "bob")


def is_lot(value):
    return are_of_line(value) and value != []


def is_stretch_behind_ann(value):
    return type(value) is list and value in (["bob"], ["cat"], ["bob", "cat"])


def is_behind_ann(value):
    return type(value) is str and value in ("bob", "cat")


def are_counts(value):
    return are_right_counts(trio(), value)


def is_place(value):
    return is_right_count(value) and value <= 3


LINE = ("line", trio(), InvalidLine, is_line, [[Asker("ann", ["a"], 1)]])
ONE = ("one", trio(), InvalidLine, is_line, [[]])
OTHER = ("other", trio().moved("cat", 0), InvalidLine, is_line, [[]])
STOCK = ("stock", {"a": 2, "b": 0}, InvalidStock, is_right_stock, [[("a", 1)], {"a": 1, "b": -1}, {"a": 1, "B": 1}])
NAMED = ("names", ["cat", "ann"], InvalidNames, are_of_line, [["ann", "dan"], ["ann", "ann"], ("ann",), "ann"])
NAME = ("name", "ann", UnknownName, is_of_line, ["dan", "Ann", ["ann"]])
CAT = ("name", "cat", UnknownName, is_of_line, ["dan", ("cat",)])
COUNTS = ("value", [("ann", 1), ("bob", 0), ("cat", 0)], InvalidDeal, are_counts, [
    [("ann", 1), ("bob", 0)], [("bob", 0), ("ann", 1), ("cat", 0)], [("ann", 4), ("bob", 0), ("cat", 0)],
    [("ann", True), ("bob", 0), ("cat", 0)], [["ann", 1], ("bob", 0), ("cat", 0)], [("ann", -1), ("bob", 0), ("cat", 0)],
    (("ann", 1), ("bob", 0), ("cat", 0)), {"ann": 1, "bob": 0, "cat": 0}, [("ann", 1), ("bob", 0), ("cat", 0), ("dan", 0)],
    [("ann", 1), ("bob", 0), ("cat", 0), ("cat", 0)], [("ann", 1), ("bob", 3), ("cat", 0)], [("ann", 1, 0), ("bob", 0), ("cat", 0)],
])
LOT = ("lot", ["ann"], InvalidNames, is_lot, [[], ["ann", "ann"], ["ann", "dan"], ("ann",), "ann"])
STRETCH = ("stretch", ["bob", "cat"], InvalidNames, is_stretch_behind_ann, [
    [], ["ann"], ["cat", "bob"], ["bob", "bob"], ["bob", "dan"], ("bob",), "bob", ["ann", "bob"], ["cat", "ann"],
])
CALLS = [
    (deals.together, [LINE, NAMED, STOCK]),
    (deals.due, [LINE, CAT, ("elders", ["bob"], InvalidNames, are_elders_of_cat, [["cat"], ["ann", "cat"], ["dan"]]), STOCK]),
    (deals.deal, [LINE, STOCK]),
    (deals.spread, [LINE, STOCK, COUNTS]),
    (deals.check_spread, [LINE, STOCK, COUNTS, "found"]),
    (deals.left, [LINE, STOCK, COUNTS]),
    (papers.shortage, [LINE, STOCK, NAME]),
    (papers.check_shortage, [LINE, STOCK, NAME, "value"]),
    (papers.papers, [LINE, STOCK]),
    (papers.check_papers, [LINE, STOCK, "value"]),
    (papers.harmed, [ONE, OTHER, STOCK]),
    (orders.linked, [LINE, NAME, ("near", "cat", UnknownName, is_of_line, ["dan"])]),
    (orders.group, [LINE, NAME]),
    (orders.chain, [LINE, CAT, ("elder", "ann", UnknownName, is_elder_of_cat, ["cat", "dan"])]),
    (orders.parent, [LINE, NAME]),
    (orders.forest, [LINE]),
    (orders.alike, [ONE, OTHER]),
    (orders.parting, [ONE, OTHER]),
    (orders.check_parting, [ONE, OTHER, "value"]),
    (orders.normal, [LINE]),
    (orders.count_alike, [LINE]),
    (orders.positions, [LINE, NAME]),
    (orders.exchanges, [ONE, OTHER]),
    (orders.touched, [LINE, NAME]),
    (orders.count_unlike, [LINE]),
    (orders.unlike_lines, [LINE]),
    (costs.cost, [LINE, LOT, STRETCH, STOCK]),
    (costs.greatest_cost, [LINE, LOT, STRETCH]),
    (costs.worst_stock, [LINE, LOT, STRETCH]),
    (costs.barrier, [LINE, LOT, STRETCH]),
    (costs.check_barrier, [LINE, LOT, STRETCH, "value"]),
    (costs.whom, [LINE, NAME]),
    (costs.newcomer, [LINE, ("asker", NEW, InvalidAsker, is_asker, ["dan", ["dan"]]),
                      ("at", 1, InvalidCount, is_place, [4, -1, "1"])]),
    (costs.eased, [LINE, LOT, STRETCH, ("bound", 1, InvalidCount, is_right_count, [-1, "1"])]),
    (costs.first_cost, [LINE, NAME, ("other", "cat", UnknownName, is_behind_ann, ["ann", "dan"])]),
    (costs.first_stock, [LINE, NAME, ("other", "cat", UnknownName, is_behind_ann, ["ann", "dan"])]),
]


class Refusals(RefusalCase):
    calls = CALLS

    def test_sides_of_other_lines(self):
        line = Line([Asker(name, ["a"], 1) for name in ("d", "c", "b", "a")])
        for lot, stretch in ((["d", "b"], ["c"]), (["b"], ["b"]), (["b"], ["c", "b"]), (["d"], ["c", "a"]), (["a"], ["a"]),
                             (["d", "a"], ["b"]), (["d"], ["b", "c"]), (["d"], ["c", "c"]), (["c"], ["d"])):
            for function in (costs.greatest_cost, costs.worst_stock, costs.barrier):
                self.refused(InvalidNames, stretch, function, line, lot, stretch)
            self.refused(InvalidNames, stretch, costs.cost, line, lot, stretch, None)
            self.refused(InvalidNames, stretch, costs.check_barrier, line, lot, stretch, None)
            self.refused(InvalidNames, stretch, costs.eased, line, lot, stretch, None)
        self.assertEqual([costs.greatest_cost(line, ["c", "d"], ["b", "a"]), costs.greatest_cost(line, ["d"], ["a"])], [2, 1])

    def test_the_empty_line(self):
        for function, parts in CALLS:
            if len(parts) > 1 and not isinstance(parts[1], str) and parts[1][0] in ("name", "lot"):
                error = parts[1][2]
                for value in strange():
                    self.refused(error, value, function, Line([]), value, *[None] * (len(parts) - 2))
