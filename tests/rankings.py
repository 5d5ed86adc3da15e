"""Ranks for the tests, and what they find out about shares apart from the program."""

import itertools
import random
from fractions import Fraction

from elderlink.shares import Ranks
from tests.samples import is_right_count, is_right_name
from tests.ways import drawn_lines, lots, most_of, share


def splits(askers):
    """All ways to put askers into classes."""
    if not askers:
        yield []
    for first in lots(askers):
        for rest in splits([asker for asker in askers if asker not in first]):
            yield [first, *rest]


def drawn_ranks(seed, number, many, kinds, most):
    draw = random.Random(seed)
    for line in drawn_lines(seed, number, many, kinds, most):
        classes = []
        for asker in line.askers():
            if not classes or draw.randint(0, 2) == 0:
                classes.append([])
            classes[-1].append(asker)
        yield Ranks(classes)


def pair_of(part):
    return (part.numerator, part.denominator)


def tables(ranks, stock):
    """For each class the lots of its names with what they can get behind all elders."""
    elders = []
    for askers in ranks.classes():
        base = most_of(elders, stock)
        yield {tuple(asker.name for asker in lot): most_of(elders + lot, stock) - base for lot in lots(askers)}
        elders += askers


def fair_of(ranks, stock):
    """[102]: all of a class get more, at one pace, until a lot has all it can get."""
    found = []
    for table, askers in zip(tables(ranks, stock), ranks.classes()):
        amounts = {asker.name: Fraction(0) for asker in askers}
        free = list(amounts)
        while free:
            steps = []
            for lot, most in table.items():
                open_ones = [name for name in lot if name in free]
                if open_ones:
                    steps.append((most - sum(amounts[name] for name in lot)) / Fraction(len(open_ones)))
            for name in free:
                amounts[name] += min(steps)
            full = [lot for lot, most in table.items() if sum(amounts[name] for name in lot) == most]
            free = [name for name in free if not any(name in lot for lot in full)]
        found += [(asker.name, pair_of(amounts[asker.name])) for asker in askers]
    return found


def is_right_share(value):
    if type(value) is not tuple or len(value) != 2 or not is_right_name(value[0]):
        return False
    part = value[1]
    if type(part) is not tuple or len(part) != 2 or not is_right_count(part[0]) or not is_right_count(part[1]):
        return False
    return part[1] > 0 and pair_of(Fraction(part[0], part[1])) == part


def are_right_shares(ranks, value):
    """[102] by its words."""
    if type(value) is not list or not all(is_right_share(part) for part in value):
        return False
    return [name for name, _ in value] == ranks.line().names()


def is_right_fault(ranks, stock, shares, value):
    """[104] by its words."""
    amounts = {name: Fraction(*part) for name, part in shares}
    askers = ranks.line().askers()
    every = [[asker.name for asker in lot] for lot in lots(askers)]
    most = {tuple(lot): most_of([ranks.line().asker(name) for name in lot], stock) for lot in every}
    much = [sorted(lot) for lot in every if sum(amounts[name] for name in lot) > most[tuple(lot)]]
    less = []
    for place, (table, own) in enumerate(zip(tables(ranks, stock), ranks.classes())):
        names = tuple(asker.name for asker in own)
        if sum(amounts[name] for name in names) < table[names]:
            less.append(place)
    if type(value) is not tuple or not value or type(value[0]) is not str:
        return False
    if much:
        return value[0] == "much" and len(value) == 2 and type(value[1]) is list and value[1] in much
    if less:
        return value[0] == "less" and len(value) == 2 and type(value[1]) is int and value[1] in less
    if value[0] != "raise" or len(value) != 3:
        return False
    _, name, other = value
    together = [own for own in ranks.classes() if {name, other} <= {asker.name for asker in own}] if (
        type(name) is str and type(other) is str) else []
    if not together or not amounts[name] < amounts[other]:
        return False
    # So little that it only matters where nothing at all was free.
    some = Fraction(1, 10 ** 90)
    moved = {**amounts, name: amounts[name] + some, other: amounts[other] - some}
    return all(sum(moved[each] for each in lot) <= most[tuple(lot)] for lot in every)


def whole_deals(ranks, stock):
    """[105]: all whole deals, gone through one by one."""
    names = ranks.line().names()
    askers = ranks.line().askers()
    every = [(lot, most_of(lot, stock)) for lot in lots(askers)]
    sums = [table[tuple(asker.name for asker in own)] for table, own in zip(tables(ranks, stock), ranks.classes())]
    for counts in itertools.product(*[range(asker.most + 1) for asker in askers]):
        told = dict(zip(names, counts))
        if [sum(told[asker.name] for asker in own) for own in ranks.classes()] == sums:
            if all(sum(told[asker.name] for asker in lot) <= most for lot, most in every):
                yield list(zip(names, counts))


def rows_of(ranks, told):
    counts = dict(told)
    return [sorted(counts[asker.name] for asker in own) for own in ranks.classes()]


def joined_of(ranks, name):
    """[108]: the names with whom one is joined, the elder ones apart from its equals."""
    ahead = []
    for own in ranks.classes():
        ahead += own
        if name in [asker.name for asker in own]:
            break
    found = [asker for asker in ahead if asker.name == name]
    while True:
        more = [asker for asker in ahead if asker not in found and any(share(asker, each) for each in found)]
        if not more:
            break
        found += more
    equals = sorted(asker.name for asker in found if asker in own)
    return (sorted(asker.name for asker in found if asker not in own), equals)
