"""[130] to [134]: best worths and prices, against all spreads and all prices of small stocks."""

import itertools
import random

from elderlink.deals import deal
from elderlink.errors import InvalidLine, InvalidNumbers, InvalidStock, InvalidWorths
from elderlink.house import Asker, Line, renamed
from elderlink.worth import best_of_deal, best_spread, best_worth, by_asker, check_prices, greatest_prices, least_prices
from elderlink.worth import prices, rank_costs, spread_of_deal
from tests.samples import BIG, ElderCase, HUGE, is_line, is_right_count, is_right_stock, repr_of, spoiled, strange, strange_but
from tests.ways import all_lines, bent, deal_of, drawn_lines, drawn_stocks, is_right_spread, line_of, most_of, patterned_lines

TWO = Line([Asker("ann", ["o"], 1), Asker("bob", ["a", "o"], 2)])
HERE = {"a": 1, "o": 1}
WANT = {("ann", "o"): 5, ("bob", "o"): 4, ("bob", "a"): 1}


def pairs_of(line):
    return [(asker.name, kind) for asker in line.askers() for kind in asker.fits]


def drawn_worths(seed, number, line, low, high):
    draw = random.Random(seed)
    for _ in range(number):
        yield {pair: draw.randint(low, high) for pair in pairs_of(line)}


def cases():
    yield Line([]), {"a": 1}, {}
    lines = [*all_lines(1, "ab", (1, 2)), *itertools.islice(all_lines(2, "ab", (1, 2)), 0, None, 3),
             *itertools.islice(patterned_lines(3, "abc"), 0, None, 9), *drawn_lines(1301, 12, 4, "abc", 2)]
    for at, line in enumerate(lines):
        for stock in drawn_stocks(at, 2, "abcz", 3):
            for low, high in ((-2, 3), (0, 1), (1, 9), (-3, -1)):
                yield from ((line, stock, worths) for worths in drawn_worths(at, 1, line, low, high))
        yield line, {"a": 2, "b": 0, "c": 1}, {pair: 4 for pair in pairs_of(line)}
        yield line, {"a": 2, "c": 3}, {pair: 0 for pair in pairs_of(line)}


def best_by_all(line, stock, worths, counts=None):
    """The greatest worth of all spreads, gone through asker by asker; if counts are told, with just these."""
    kinds = sorted(stock)
    ends = {tuple(stock[kind] for kind in kinds): 0}
    for asker in line.askers():
        more = {}
        for rest, worth in ends.items():
            for given in itertools.product(*[range(min(have, asker.most) + 1 if kind in asker.fits else 1)
                                             for kind, have in zip(kinds, rest)]):
                if sum(given) > asker.most or counts is not None and sum(given) != counts[asker.name]:
                    continue
                behind = tuple(have - number for have, number in zip(rest, given))
                found = worth + sum(number * worths[(asker.name, kind)] for kind, number in zip(kinds, given) if number)
                more[behind] = max(more.get(behind, found), found)
        ends = more
    return max(ends.values())


def worth_of(found, worths):
    return sum(number * worths[(name, kind)] for name, kind, number in found)


def counts_of(line, found):
    return [(name, sum(entry[2] for entry in found if entry[0] == name)) for name in line.names()]


def is_right_prices(line, stock, worths, value):
    """[131] by adding up."""
    if type(value) is not tuple or len(value) != 2 or not all(type(part) is dict for part in value):
        return False
    kinds, askers = value
    if repr_of(sorted(kinds, key=repr)) != repr_of(sorted(line.kinds())) or sorted(askers, key=repr) != sorted(line.names()):
        return False
    if not all(is_right_count(price) for price in [*kinds.values(), *askers.values()]):
        return False
    if any(kinds[kind] + askers[name] < worth for (name, kind), worth in worths.items()):
        return False
    bags = sum(stock.get(kind, 0) * price for kind, price in kinds.items())
    return bags + sum(asker.most * askers[asker.name] for asker in line.askers()) == best_by_all(line, stock, worths)


class Best(ElderCase):
    def test_best_worth_and_spread(self):
        for line, stock, worths in cases():
            best = best_by_all(line, stock, worths)
            self.assertEqual(best_worth(line, stock, worths), best)
            found = best_spread(line, stock, worths)
            counts = counts_of(line, found)
            self.assertTrue(is_right_spread(line, stock, counts, found))
            self.assertTrue(all(count <= line.asker(name).most for name, count in counts))
            self.assertEqual(worth_of(found, worths), best)
            self.assertGreaterEqual(best, 0)

    def test_of_the_deal(self):
        below = 0
        for line, stock, worths in cases():
            counts = deal_of(line, stock)
            best = best_by_all(line, stock, worths, dict(counts))
            below += best < 0
            self.assertEqual(best_of_deal(line, stock, worths), best)
            found = spread_of_deal(line, stock, worths)
            self.assertTrue(is_right_spread(line, stock, counts, found))
            self.assertEqual(worth_of(found, worths), best)
            self.assertEqual(rank_costs(line, stock, worths), best_by_all(line, stock, worths) - best)
        self.assertGreater(below, 50)

    def test_great_stocks_and_mosts(self):
        for great in (BIG, HUGE):
            line = Line([Asker("p", ["a", "b"], great), Asker("q", ["a"], great), Asker("r", ["b"], 2 * great)])
            worths = {("p", "a"): 999999999, ("p", "b"): 5, ("q", "a"): 999999998, ("r", "b"): -1}
            stock = {"a": great + 7, "b": great}
            self.assertEqual(best_worth(line, stock, worths), great * 999999998 + 7 * 999999999 + (great - 7) * 5)
            self.assertEqual(best_spread(line, stock, worths), [("p", "a", 7), ("p", "b", great - 7), ("q", "a", great)])
            self.assertEqual(spread_of_deal(line, stock, worths),
                             [("p", "a", 7), ("p", "b", great - 7), ("q", "a", great), ("r", "b", 7)])
            self.assertEqual((best_of_deal(line, stock, worths), rank_costs(line, stock, worths)),
                             (best_worth(line, stock, worths) - 7, 7))
            self.assertIs(check_prices(line, stock, worths, prices(line, stock, worths)), True)
            self.assertEqual(least_prices(line, stock, worths)[0], {"a": 999999994, "b": 0})

    def test_eight_askers(self):
        for line in drawn_lines(1302, 6, 8, "abcdef", BIG):
            for stock in drawn_stocks(1303, 2, "abcdef", BIG):
                for worths in drawn_worths(1304, 2, line, -10 ** 9 + 1, 10 ** 9 - 1):
                    best = best_worth(line, stock, worths)
                    found = best_spread(line, stock, worths)
                    self.assertTrue(is_right_spread(line, stock, counts_of(line, found), found))
                    # Prices with an equal sum show that there is no better spread.
                    for kinds, askers in (prices(line, stock, worths), greatest_prices(line, stock, worths)):
                        self.assertTrue(all(kinds[kind] + askers[name] >= worth for (name, kind), worth in worths.items()))
                        bags = sum(stock[kind] * price for kind, price in kinds.items())
                        self.assertEqual(bags + sum(asker.most * askers[asker.name] for asker in line.askers()), best)
                    self.assertEqual(worth_of(found, worths), best)
                    least, greatest = least_prices(line, stock, worths)[0], greatest_prices(line, stock, worths)[0]
                    self.assertTrue(all(least[kind] <= greatest[kind] for kind in line.kinds() if stock[kind]))

    def test_called_otherwise(self):
        kinds = {"a": "zz", "zz": "b", "b": "a"}
        for line, stock, worths in itertools.islice(cases(), 0, None, 7):
            told = {(name, kinds.get(kind, kind)): worth for (name, kind), worth in worths.items()}
            self.assertEqual(best_worth(renamed(line, kinds), renamed(stock, kinds), told), best_worth(line, stock, worths))


class Prices(ElderCase):
    def test_least_and_greatest_by_a_bag_more_and_less(self):
        for line, stock, worths in cases():
            best = best_by_all(line, stock, worths)
            least, greatest = least_prices(line, stock, worths), greatest_prices(line, stock, worths)
            for found in (prices(line, stock, worths), least, greatest):
                self.assertTrue(is_right_prices(line, stock, worths, found))
                self.assertIs(check_prices(line, stock, worths, found), True)
            for kind in line.kinds():
                more = {**stock, kind: stock.get(kind, 0) + 1}
                self.assertEqual(least[0][kind], best_by_all(line, more, worths) - best)
                if stock.get(kind, 0):
                    less = {**stock, kind: stock[kind] - 1}
                    self.assertEqual(greatest[0][kind], best - best_by_all(line, less, worths))
            self.others_are_needed(line, stock, worths, greatest)

    def others_are_needed(self, line, stock, worths, found):
        """Each kind without bags has the least price with which the prices still hold; askers have no other choice."""
        kinds, askers = found
        for kind in line.kinds():
            if not stock.get(kind, 0):
                needed = [worths[(asker.name, kind)] - askers[asker.name] for asker in line.askers() if kind in asker.fits]
                self.assertEqual(kinds[kind], max([0, *needed]))
        for asker in line.askers():
            self.assertEqual(askers[asker.name], max([0, *[worths[(asker.name, kind)] - kinds[kind] for kind in asker.fits]]))

    def test_against_all_prices(self):
        for line in (line_of(["ab", "a"], [1, 2]), line_of(["ab", "b", "a"], [1, 1, 1]), line_of(["a", "ab"], [2, 1])):
            for stock in ({"a": 1, "b": 1}, {"a": 2}, {"a": 1, "b": 2, "z": 1}, {}):
                for worths in drawn_worths(1305, 6, line, -1, 3):
                    there = []
                    for numbers in itertools.product(range(5), repeat=2 + len(line)):
                        value = (dict(zip("ab", numbers)), dict(zip(line.names(), numbers[2:])))
                        right = is_right_prices(line, stock, worths, value)
                        self.assertIs(check_prices(line, stock, worths, value), right)
                        if right:
                            there.append(value)
                    least, greatest = least_prices(line, stock, worths)[0], greatest_prices(line, stock, worths)[0]
                    for kind in "ab":
                        self.assertEqual(least[kind], min(kinds[kind] for kinds, _ in there))
                        if stock.get(kind, 0):
                            self.assertEqual(greatest[kind], max(kinds[kind] for kinds, _ in there))

    def test_bent(self):
        found = prices(TWO, HERE, WANT)
        for value in [*bent(found), *spoiled(found), ({"a": 1, "o": 5}, {"ann": 0, "bob": 0}), ({"a": 1, "o": 4}, {"ann": 1})]:
            kept = repr_of(value)
            self.assertIs(check_prices(TWO, HERE, WANT, value), is_right_prices(TWO, HERE, WANT, value), kept)
            self.assertEqual(repr_of(value), kept)
        for value in (({"a": True, "o": 4}, {"ann": 1, "bob": 0}), ({"a": 1, "o": 4}, {"ann": True, "bob": False}),
                      [{"a": 1, "o": 4}, {"ann": 1, "bob": 0}], ({"a": 1, "o": 4, "z": 0}, {"ann": 1, "bob": 0}),
                      ({"a": 1, "o": 4}, {"ann": 1, "bob": 0, "zoe": 0}), ({"a": 1, "o": 4}, [("ann", 1), ("bob", 0)]),
                      ({"a": -1, "o": 4}, {"ann": 1, "bob": 2}), ({"a": 1, "o": 4}, {"ann": 1, "bob": 0}, {})):
            self.assertIs(check_prices(TWO, HERE, WANT, value), False)

    def test_the_empty_line(self):
        empty = Line([])
        self.assertEqual([best_worth(empty, {"a": 1}, {}), best_spread(empty, {}, {}), prices(empty, {"a": 1}, {}),
                          greatest_prices(empty, {"a": 1}, {}), check_prices(empty, {"a": 9}, {}, ({}, {})),
                          best_of_deal(empty, {}, {}), by_asker(empty, [])], [0, [], ({}, {}), ({}, {}), True, 0, {}])


class ByAsker(ElderCase):
    def test_falling_numbers_give_the_deal(self):
        for at, line in enumerate([*itertools.islice(patterned_lines(3, "abc"), 0, None, 11), *drawn_lines(1306, 15, 6, "abcd", 4)]):
            for stock in drawn_stocks(at, 3, "abcdz", 4):
                worths = by_asker(line, [7 * len(line) - 6 * place for place in range(len(line))])
                self.assertEqual(counts_of(line, best_spread(line, stock, worths)), deal(line, stock))
                self.assertEqual(rank_costs(line, stock, worths), 0)

    def test_the_best_worth_by_numbers(self):
        draw = random.Random(1307)
        for line in drawn_lines(1308, 25, 4, "abc", 3):
            for stock in drawn_stocks(1309, 2, "abc", 3):
                numbers = [draw.randint(-3, 6) for _ in range(len(line))]
                worths = by_asker(line, numbers)
                self.assertEqual(worths, {(asker.name, kind): number for asker, number in zip(line.askers(), numbers)
                                          for kind in asker.fits})
                rows = sorted(((number, asker) for number, asker in zip(numbers, line.askers()) if number > 0),
                              key=lambda row: -row[0])
                found = 0
                for at, (number, _) in enumerate(rows):
                    following = rows[at + 1][0] if at + 1 < len(rows) else 0
                    found += (number - following) * most_of([asker for _, asker in rows[:at + 1]], stock)
                self.assertEqual(best_worth(line, stock, worths), found)

    def test_no_numbers(self):
        for value in [[3], [3, 2, 1], (3, 2), [3, True], [3, None], [3, "2"], {0: 3, 1: 2}, [[3, 2]], *strange()]:
            self.refused(InvalidNumbers, value, by_asker, TWO, value)
        for value in strange_but(is_line):
            self.refused(InvalidLine, value, by_asker, value, None)
        self.assertEqual(by_asker(TWO, [-3, 0]), {("ann", "o"): -3, ("bob", "o"): 0, ("bob", "a"): 0})


class Wrong(ElderCase):
    def test_worths(self):
        functions = (best_worth, best_spread, prices, least_prices, greatest_prices, best_of_deal, spread_of_deal, rank_costs)
        wrong = [{**WANT, ("ann", "a"): 1}, {**WANT, ("zoe", "o"): 1}, {**WANT, "o": 1}, {("ann", "o"): 5, ("bob", "o"): 4},
                 {**WANT, ("bob", "a"): True}, {**WANT, ("bob", "a"): None}, {("ann", "o"): 5, ("bob", "o"): 4, ("bob", "A"): 1},
                 list(WANT.items()), {}, {"ann": {"o": 5}, "bob": {"o": 4, "a": 1}}, {("o", "ann"): 5, ("o", "bob"): 4, ("a", "bob"): 1},
                 {**WANT, ("bob", "a"): "1"}, [[5], [4, 1]], {**WANT, None: 0}, *strange()]
        for function in functions:
            for value in wrong:
                self.refused(InvalidWorths, value, function, TWO, HERE, value)
            for value in strange_but(is_right_stock):
                self.refused(InvalidStock, value, function, TWO, value, None)
            for value in strange_but(is_line):
                self.refused(InvalidLine, value, function, value, None, None)
        for value in wrong:
            self.refused(InvalidWorths, value, check_prices, TWO, HERE, value, None)
        self.refused(InvalidStock, None, check_prices, TWO, None, None, None)
        self.refused(InvalidLine, None, check_prices, None, None, None, None)
