"""[1], [2] and the interface: names, where they are defined, arguments, and results that are alike."""

import importlib
import inspect
import unittest

from elderlink import costs, deals, errors, house, orders, papers, texts
from elderlink.days import DayLine
from elderlink.house import Asker, Line
from elderlink.live import House
from elderlink.shares import Ranks
from tests.samples import repr_of, trio
from tests.test_errors import WITH_FIELD, WITHOUT_FIELD

FUNCTIONS = {
    "elderlink.house": {
        "total": ["stock"], "held": ["stock", "kinds"], "added": ["one", "other"], "taken": ["one", "other"],
        "fitting": ["line", "names"], "wanted": ["line", "names"], "folded": ["line", "stock"],
        "renamed": ["thing", "names"], "recalled": ["line", "names"],
    },
    "elderlink.texts": {
        "asker_text": ["asker"], "line_text": ["line"], "stock_text": ["stock"], "deal_text": ["deal"],
        "read_asker": ["text"], "read_line": ["text"], "read_stock": ["text"], "read_deal": ["text"],
    },
    "elderlink.deals": {
        "together": ["line", "names", "stock"], "due": ["line", "name", "elders", "stock"], "deal": ["line", "stock"],
        "spread": ["line", "stock", "value"], "check_spread": ["line", "stock", "value", "found"],
        "left": ["line", "stock", "value"],
    },
    "elderlink.papers": {
        "shortage": ["line", "stock", "name"], "check_shortage": ["line", "stock", "name", "value"],
        "papers": ["line", "stock"], "check_papers": ["line", "stock", "value"], "harmed": ["one", "other", "stock"],
    },
    "elderlink.orders": {
        "linked": ["line", "name", "near"], "group": ["line", "name"], "chain": ["line", "name", "elder"],
        "parent": ["line", "name"], "forest": ["line"], "alike": ["one", "other"], "parting": ["one", "other"],
        "check_parting": ["one", "other", "value"], "normal": ["line"], "count_alike": ["line"],
        "positions": ["line", "name"], "exchanges": ["one", "other"], "touched": ["line", "name"],
        "count_unlike": ["line"], "unlike_lines": ["line"],
    },
    "elderlink.costs": {
        "cost": ["line", "lot", "stretch", "stock"], "greatest_cost": ["line", "lot", "stretch"],
        "worst_stock": ["line", "lot", "stretch"], "barrier": ["line", "lot", "stretch"],
        "check_barrier": ["line", "lot", "stretch", "value"], "whom": ["line", "name"],
        "newcomer": ["line", "asker", "at"], "eased": ["line", "lot", "stretch", "bound"],
        "first_cost": ["line", "name", "other"], "first_stock": ["line", "name", "other"],
    },
    "elderlink.gains": {
        "gainer": ["line", "stock", "kind"], "loser": ["line", "stock", "kind"], "gain_way": ["line", "stock", "kind"],
        "check_way": ["line", "stock", "kind", "value"], "can_help": ["line", "kind"],
        "help_stock": ["line", "kind", "name"], "between": ["line", "low", "high"],
        "least_stock": ["line", "name", "wish"], "least_help": ["line", "stock", "name", "wish"],
        "spare": ["line", "stock"], "waits_for": ["line", "name"], "same_kinds": ["line", "one", "other"],
        "payer": ["line", "stock", "name"],
    },
    "elderlink.shares": {
        "class_sums": ["ranks", "stock"], "fair": ["ranks", "stock"], "blocks": ["ranks", "stock"],
        "unfair": ["ranks", "stock", "shares"], "check_unfair": ["ranks", "stock", "shares", "value"],
        "even": ["ranks", "stock"], "even_rows": ["ranks", "stock"], "check_even": ["ranks", "stock", "value"],
        "evener": ["ranks", "stock", "told"], "span": ["ranks", "stock"], "parted": ["ranks"],
        "alike_ranks": ["one", "other"], "parting_ranks": ["one", "other"],
        "check_parting_ranks": ["one", "other", "value"], "harmed_shares": ["one", "other", "stock"],
    },
    "elderlink.claims": {
        "order_for": ["line", "book"], "stuck": ["line", "book"], "check_stuck": ["line", "book", "value"],
        "count_orders": ["line", "book"], "must": ["line", "book"], "nearest": ["line", "book"],
        "first_wronged": ["line", "book"], "lesson": ["line"], "unlike_deals": ["line", "stock"],
        "count_deals": ["line", "stock"], "bounds": ["line", "stock"], "means": ["line", "stock"],
    },
    "elderlink.days": {
        "cells": ["day_line"], "unrolled": ["day_line"], "day_order": ["day_line"],
        "foreseen": ["day_line", "supplies"], "by_days": ["day_line", "supplies"],
        "so_far": ["day_line", "supplies", "day"], "alike_days": ["day_line"], "later_matters": ["day_line"],
        "check_later": ["day_line", "value"], "handed": ["day_line", "supplies"],
        "handed_deal": ["day_line", "supplies"], "unused": ["day_line", "supplies"],
        "foresight": ["day_line", "supplies"],
    },
    "elderlink.worth": {
        "best_worth": ["line", "stock", "worths"], "best_spread": ["line", "stock", "worths"],
        "prices": ["line", "stock", "worths"], "check_prices": ["line", "stock", "worths", "value"],
        "least_prices": ["line", "stock", "worths"], "greatest_prices": ["line", "stock", "worths"],
        "best_of_deal": ["line", "stock", "worths"], "spread_of_deal": ["line", "stock", "worths"],
        "rank_costs": ["line", "stock", "worths"], "by_asker": ["line", "numbers"],
    },
    "elderlink.early": {
        "in_steps": ["line", "first", "later"], "early_pairs": ["line"], "early_matters": ["line"],
        "check_early": ["line", "value"], "fit_harms": ["line", "name", "kind"],
        "fit_stock": ["line", "name", "kind", "other"], "winner": ["line", "stock", "name"],
        "merged": ["line", "name"], "gathered": ["line"],
    },
    "elderlink.live": {"replayed": ["line", "stock", "log"]},
    "elderlink.scripts": {
        "play": ["house", "script"], "script_text": ["script"], "read_script": ["text"], "said_text": ["said"],
        "same_end": ["line", "one", "other"], "parting_stock": ["line", "one", "other"], "trimmed": ["line", "script"],
    },
}
METHODS = {
    Line: {
        "askers": [], "names": [], "__len__": [], "kinds": [], "asker": ["name"], "place": ["name"],
        "without": ["name"], "put_in": ["asker", "place"], "moved": ["name", "place"], "changed": ["asker"],
        "ordered": ["names"], "__init__": ["askers"], "__eq__": ["other"],
    },
    Ranks: {"classes": [], "line": [], "__len__": [], "__eq__": ["other"], "__init__": ["classes"]},
    DayLine: {"line": [], "keeps": [], "days": [], "__eq__": ["other"], "__init__": ["line", "keeps", "days"]},
    House: {
        "line": [], "stock": [], "deal": [], "__len__": [], "given": [], "bring": ["kind", "count"],
        "lose": ["kind", "count"], "join": ["asker", "at"], "leave": ["name"], "move": ["name", "at"],
        "order": ["names"], "give": [], "log": [], "undo": [], "redo": [], "trial": [], "attempt": ["action"],
        "copy": [], "__init__": ["line", "stock"],
    },
}
MODULES = {
    Asker: "elderlink.house", Line: "elderlink.house", Ranks: "elderlink.shares", DayLine: "elderlink.days",
    House: "elderlink.live",
}


class Interface(unittest.TestCase):
    def test_functions(self):
        for module, functions in FUNCTIONS.items():
            for name, parameters in functions.items():
                with self.subTest(module=module, name=name):
                    function = getattr(importlib.import_module(module), name)
                    self.assertEqual(function.__module__, module)
                    self.assertEqual(list(inspect.signature(function).parameters), parameters)

    def test_methods_stand_in_the_class_itself(self):
        for made, module in MODULES.items():
            self.assertEqual((made.__module__, getattr(importlib.import_module(module), made.__name__)), (module, made))
        for made, methods in METHODS.items():
            for name, parameters in methods.items():
                with self.subTest(made=made, name=name):
                    self.assertEqual(list(inspect.signature(vars(made)[name]).parameters), ["self"] + parameters)
        self.assertEqual(list(inspect.signature(Asker).parameters), ["name", "fits", "most"])
        self.assertIn("__eq__", vars(Asker))
        for name in ("name", "fits", "most"):
            self.assertIn(name, vars(Asker))

    def test_left_out_arguments(self):
        for made in MODULES:
            for name, method in vars(made).items():
                if inspect.isfunction(method):
                    defaults = [each.default for each in inspect.signature(method).parameters.values()
                                if each.default is not inspect.Parameter.empty]
                    self.assertEqual(defaults, [None] if name == "join" else [])

    def test_errors_stand_in_their_module(self):
        for name in WITH_FIELD + WITHOUT_FIELD + ["ElderError"]:
            self.assertEqual(getattr(errors, name).__module__, "elderlink.errors")
            self.assertEqual(list(inspect.signature(getattr(errors, name).__init__).parameters)[1:2] == ["value"],
                             name in WITH_FIELD)

    def test_equal_calls_tell_the_same_anew(self):
        line, stock, lot = trio(), {"b": 1, "a": 2}, ["cat", "ann"]
        calls = [
            line.askers, line.names, line.kinds, lambda: line.without("ann"), lambda: line.ordered(["cat", "bob", "ann"]),
            lambda: house.added(stock, stock), lambda: house.taken(stock, {"a": 1}), lambda: house.fitting(line, lot),
            lambda: house.folded(line, stock), lambda: house.renamed(stock, {"a": "b", "b": "a"}),
            lambda: house.renamed(line, {"a": "b", "b": "a"}), lambda: house.recalled(line, {"ann": "bob", "bob": "ann"}),
            lambda: texts.read_stock("a 1, b 2"), lambda: texts.read_deal("bob 1, ann 2"), lambda: line.asker("ann").fits,
            lambda: texts.read_line("bob 1: a\nann 1: b"),
            lambda: deals.deal(line, stock), lambda: deals.left(line, stock, [("ann", 1), ("bob", 0), ("cat", 0)]),
            lambda: deals.spread(line, stock, deals.deal(line, stock)), lambda: papers.shortage(line, stock, "cat"),
            lambda: papers.papers(line, stock), lambda: papers.harmed(line.without("ann"), line, {"a": 2}),
            lambda: orders.group(line, "cat"), lambda: orders.chain(line, "cat", "bob"), lambda: orders.forest(line),
            lambda: orders.parting(line, line.moved("cat", 0)), lambda: orders.normal(line).names(),
            lambda: orders.exchanges(line, line), lambda: orders.touched(line, "ann"), lambda: orders.unlike_lines(line),
            lambda: costs.worst_stock(line, ["ann"], ["cat"]), lambda: costs.barrier(line, ["ann"], ["cat"]),
            lambda: costs.whom(line, "ann"), lambda: costs.newcomer(line, Asker("dan", ["a"], 2), 0),
            lambda: costs.eased(line, ["ann"], ["cat"], 0), lambda: costs.first_stock(line, "ann", "cat"),
        ]
        for call in calls:
            first = call()
            told = repr_of(first)
            self.assertIsNot(call(), first)
            if isinstance(first, tuple):
                first = [part for part in first if isinstance(part, (list, dict))][0]
            if isinstance(first, (list, dict)):
                first.clear()
            self.assertEqual(repr_of(call()), told)
        self.assertEqual(repr_of([line, stock, lot]), repr_of([trio(), {"b": 1, "a": 2}, ["cat", "ann"]]))

    def test_stocks_that_tell_the_same_mean_the_same(self):
        line = trio()
        for one, other in (({"a": 2}, {"a": 2, "b": 0}), ({}, {"z": 0}), ({"a": 1, "b": 2}, {"c": 0, "b": 2, "a": 1})):
            for function in (
                house.total, texts.stock_text, lambda stock: house.held(stock, ["a", "b", "z"]),
                lambda stock: house.added(stock, {"b": 1}), lambda stock: house.taken({"a": 2, "b": 2}, stock),
                lambda stock: house.taken(stock, {}), lambda stock: house.folded(line, stock),
                lambda stock: house.renamed(stock, {"a": "b", "b": "a"}), lambda stock: deals.deal(line, stock),
                lambda stock: deals.together(line, ["ann", "cat"], stock), lambda stock: papers.papers(line, stock),
                lambda stock: deals.due(line, "cat", ["bob"], stock), lambda stock: papers.shortage(line, stock, "cat"),
                lambda stock: deals.spread(line, stock, deals.deal(line, stock)),
                lambda stock: deals.left(line, stock, deals.deal(line, stock)),
                lambda stock: papers.harmed(line, line.moved("cat", 0), stock),
                lambda stock: costs.cost(line, ["ann"], ["bob", "cat"], stock),
                lambda stock: papers.check_papers(line, stock, papers.papers(line, one)),
                lambda stock: orders.check_parting(line, line.moved("cat", 0), (stock, "cat")),
            ):
                self.assertEqual(function(one), function(other))
