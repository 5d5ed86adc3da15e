"""What the tests find out by going through small things one by one, apart from the program."""

import itertools
import random

from elderlink.house import Asker, Line
from tests.samples import is_right_count, is_right_name, is_right_names

PLACES = ["m", "c", "x", "ba", "k", "b", "zz", "a"]


def lots(things, least=1):
    """All lists of at least so many of some things, in their order."""
    return [list(lot) for many in range(least, len(things) + 1) for lot in itertools.combinations(things, many)]


def line_of(fits, mosts):
    """A line with names that are in no order; fits as texts of kinds of one letter."""
    return Line([Asker(name, list(own), most) for name, own, most in zip(PLACES, fits, mosts)])


def all_lines(many, kinds, mosts):
    """All lines of so many askers."""
    for fits in itertools.product(lots(kinds), repeat=many):
        for wants in itertools.product(mosts, repeat=many):
            yield line_of(fits, wants)


def patterned_lines(many, kinds):
    """All lines of so many askers but for their mosts, which follow a pattern."""
    for at, fits in enumerate(itertools.product(lots(kinds), repeat=many)):
        yield line_of(fits, [1 + (at + 2 * place + place * at // 3) % 3 for place in range(many)])


def drawn_lines(seed, number, many, kinds, most):
    """Lines drawn anew, but always the same ones."""
    draw = random.Random(seed)
    for _ in range(number):
        fits = [draw.sample(kinds, draw.randint(1, min(3, len(kinds)))) for _ in range(many)]
        yield line_of(fits, [draw.randint(1, most) for _ in range(many)])


def all_stocks(kinds, most):
    for counts in itertools.product(range(most + 1), repeat=len(kinds)):
        yield dict(zip(kinds, counts))


def drawn_stocks(seed, number, kinds, most):
    draw = random.Random(seed)
    for _ in range(number):
        yield {kind: draw.randint(0, most) for kind in kinds}


def all_givings(askers, stock):
    """All ways to give bags of a stock: for each tuple of counts of the askers all stocks that can be left of it."""
    ends = {((), tuple(stock[kind] for kind in sorted(stock)))}
    kinds = sorted(stock)
    for asker in askers:
        for_one = set()
        for counts, rest in ends:
            for given in itertools.product(*[
                range(min(have, asker.most) + 1 if kind in asker.fits else 1) for kind, have in zip(kinds, rest)
            ]):
                if sum(given) <= asker.most:
                    behind = tuple(have - number for have, number in zip(rest, given))
                    for_one.add((counts + (sum(given),), behind))
        ends = for_one
    found = {}
    for counts, rest in ends:
        found.setdefault(counts, []).append(dict(zip(kinds, rest)))
    return found


def most_of(askers, stock):
    """What some askers can get together, as the least of all that could stop them."""
    found = []
    for lot in lots(askers, 0):
        kinds = {kind for asker in lot for kind in asker.fits}
        names = [asker.name for asker in lot]
        wants = sum(asker.most for asker in askers if asker.name not in names)
        found.append(wants + sum(stock.get(kind, 0) for kind in kinds))
    return min(found)


def deal_of(line, stock):
    askers = line.askers()
    sums = [most_of(askers[:many], stock) for many in range(len(askers) + 1)]
    return [(asker.name, sums[at + 1] - sums[at]) for at, asker in enumerate(askers)]


def cost_of(line, lot, stretch, stock):
    """[80] by its words."""
    end = line.place(stretch[-1]) + 1
    ahead = [asker for asker in line.askers()[:end] if asker.name not in stretch]
    others = [asker for asker in ahead if asker.name not in lot]
    some = [line.asker(name) for name in stretch]
    alone = most_of(others + some, stock) - most_of(others, stock)
    return alone - (most_of(ahead + some, stock) - most_of(ahead, stock))


def share(one, other):
    return any(kind in other.fits for kind in one.fits)


def grown(askers, name):
    """The names to which rows of links lead from a name within some askers."""
    found = [asker for asker in askers if asker.name == name]
    while True:
        more = [asker for asker in askers if asker not in found and any(share(asker, each) for each in found)]
        if not more:
            return [asker.name for asker in askers if asker in found]
        found += more


def group_of(line, name):
    return grown(line.askers()[:line.place(name) + 1], name)


def parent_of(line, name):
    """[71] by its words."""
    own = group_of(line, name)
    for asker in line.askers()[line.place(name) + 1:]:
        if any(share(asker, line.asker(each)) for each in own):
            return asker.name
    return None


def orders_of(line):
    """The lines of the same askers in all orders, ascending by their names."""
    return [line.ordered(list(names)) for names in itertools.permutations(sorted(line.names()))]


def sides(line):
    """All lots and stretches of a line."""
    names = line.names()
    for start in range(1, len(names)):
        for end in range(start + 1, len(names) + 1):
            for lot in lots(names[:start]):
                yield lot, names[start:end]


def is_row(line, row, lot, stretch):
    """[82] by its words, but for the links."""
    start = line.place(stretch[0])
    others = [name for name in line.names()[:start] if name not in lot]
    return row[0] in lot and row[-1] in stretch and all(name in others for name in row[1:-1])


def rows_of(line, lot, stretch):
    """All rows without a name twice of a lot to a stretch."""
    found = []
    for many in range(2, len(line) + 1):
        for row in itertools.permutations(line.names(), many):
            if is_row(line, row, lot, stretch):
                if all(share(line.asker(one), line.asker(other)) for one, other in zip(row, row[1:])):
                    found.append(row)
    return found


def are_right_counts(line, value):
    """[52]: a list of one count for each asker."""
    if type(value) is not list or len(value) != len(line):
        return False
    for asker, pair in zip(line.askers(), value):
        if type(pair) is not tuple or len(pair) != 2 or type(pair[0]) is not str or pair[0] != asker.name:
            return False
        if not is_right_count(pair[1]) or pair[1] > asker.most:
            return False
    return True


def is_right_spread(line, stock, value, found):
    """[52] by adding up."""
    if type(found) is not list:
        return False
    for entry in found:
        if type(entry) is not tuple or len(entry) != 3:
            return False
        name, kind, number = entry
        if not is_right_name(name) or not is_right_name(kind) or type(number) is not int or number < 1:
            return False
        if name not in line.names() or kind not in line.asker(name).fits:
            return False
    if any(one[:2] >= other[:2] for one, other in zip(found, found[1:])):
        return False
    if any(sum(entry[2] for entry in found if entry[1] == kind) > stock.get(kind, 0) for _, kind, _ in found):
        return False
    return all(sum(entry[2] for entry in found if entry[0] == name) == count for name, count in value)


def is_right_shortage(line, stock, name, value):
    """[60] by its words, by the tests' own deal."""
    counts = dict(deal_of(line, stock))
    if counts[name] == line.asker(name).most:
        return False
    if not is_right_names(value) or value != sorted(value) or name not in value:
        return False
    if any(each not in line.names()[:line.place(name) + 1] for each in value):
        return False
    kinds = {kind for each in value for kind in line.asker(each).fits}
    return sum(counts[each] for each in value) == sum(stock.get(kind, 0) for kind in kinds)


def bent(value):
    """A value bent in one place, in many ways."""
    if type(value) in (list, tuple):
        yield tuple(value) if type(value) is list else list(value)
        for at, item in enumerate(value):
            for other in bent(item):
                yield type(value)([*value[:at], other, *value[at + 1:]])
            yield value[:at] + value[at + 1:]
            yield value[:at] + value[at:at + 1] * 2 + value[at + 1:]
        for at in range(len(value) - 1):
            yield type(value)([*value[:at], value[at + 1], value[at], *value[at + 2:]])
        yield type(value)([*value, None])
        yield type(value)([*value, "m"])
    elif type(value) is dict:
        for key in value:
            rest = {other: value[other] for other in value if other != key}
            yield rest
            for count in bent(value[key]):
                yield {**rest, key: count}
            yield {**rest, "Q": value[key]}
        yield {**value, "zzz": 0}
        yield {**value, None: 1}
        yield sorted(value.items())
    elif type(value) is int:
        yield from (value + 1, value - 1, 0, 1, -1, True, False, None, str(value), (value,))
    elif type(value) is str:
        yield from ("m", "a", "c", "nobody", "A" + value, "", value.upper(), None, 0, True, [value])
    else:
        yield from (None, 0, [], (), {}, "m")
