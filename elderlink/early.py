"""Giving out early, new fits and lesser mosts: whom they can harm or help, and when they never matter."""

from elderlink.checks import is_stock
from elderlink.costs import whom, worst_stock
from elderlink.deals import deal, given_out
from elderlink.gains import better_off
from elderlink.house import Asker, Line, added, need_kind, need_line, need_stock
from elderlink.orders import full_stock


def in_steps(line, first, later):
    """What each asker gets in all if a first stock is given out ahead of a later one."""
    need_line(line)
    need_stock(first)
    need_stock(later)
    counts, waiting, rest = given_out(line, first)
    more = dict(deal(waiting, added(rest, later)))
    return [(name, count + more.get(name, 0)) for name, count in counts]


def early_pairs(line):
    """The elders and those behind them linked to them whom some kind of the elder's does not fit."""
    need_line(line)
    askers = line.askers()
    found = []
    for at, elder in enumerate(askers):
        for asker in askers[at + 1:]:
            both = [kind for kind in elder.fits if kind in asker.fits]
            if 0 < len(both) < len(elder.fits):
                found.append((elder.name, asker.name))
    return found


def early_matters(line):
    """A name that gets unlike counts of two stocks in steps and at once, and the stocks; None if there is none."""
    pairs = early_pairs(line)
    if len(pairs) == 0:
        return None
    name, other = pairs[0]
    fits = line.asker(other).fits
    both = [kind for kind in line.asker(name).fits if kind in fits]
    alone = [kind for kind in line.asker(name).fits if kind not in fits]
    # All elders of the other one are full, so a bag more, which does not fit it, helps it only through the elder.
    elders = line.askers()[:line.place(other)]
    return (other, full_stock(elders, [(name, both[0], 1), (name, alone[0], 0)]), {alone[0]: 1})


def check_early(line, value):
    """Whether an object is such a tuple of a name and two stocks."""
    need_line(line)
    if not isinstance(value, tuple) or len(value) != 3 or value[0] not in line.names():
        return False
    name, first, later = value
    if not is_stock(first) or not is_stock(later):
        return False
    return dict(in_steps(line, first, later))[name] != dict(deal(line, added(first, later)))[name]


def fit_harms(line, name, kind):
    """The askers that get less in some stock if a kind fits an asker, too, each with the most by which it gets less."""
    _need_fit(line, name, kind)
    if kind in line.asker(name).fits:
        return []
    return whom(_struck(line, name, kind), name)


def fit_stock(line, name, kind, other):
    """A stock in which the other one gets less by just this count, None if it never gets less."""
    _need_fit(line, name, kind)
    line.place(other)
    if other not in [each for each, _ in fit_harms(line, name, kind)]:
        return None
    # It has no bags that fit the asker without the kind: so the asker gets just what a newcomer with the kind gets.
    return worst_stock(_struck(line, name, kind), [name], [other])


def winner(line, stock, name):
    """The name of the asker that gets more if the most of the one with a name is one less, None if none does."""
    need_line(line)
    need_stock(stock)
    asker = line.asker(name)
    if asker.most > 1:
        lesser = line.changed(Asker(name, asker.fits, asker.most - 1))
    else:
        lesser = line.without(name)
    return better_off(deal(line, stock), deal(lesser, stock))


def merged(line, name):
    """The line with an asker and the one right behind it put together, None if unlike kinds fit them."""
    need_line(line)
    place = line.place(name)
    if place == len(line) - 1:
        return None
    asker, behind = line.askers()[place:place + 2]
    if asker.fits != behind.fits:
        return None
    return line.without(behind.name).changed(Asker(name, asker.fits, asker.most + behind.most))


def gathered(line):
    """The line in which askers right behind each other are put together as often as can be."""
    need_line(line)
    found = line
    at = 0
    while at < len(found):
        closer = merged(found, found.names()[at])
        if closer is None:
            at += 1
        else:
            found = closer
    return found


def _need_fit(line, name, kind):
    need_line(line)
    line.place(name)
    need_kind(kind)


def _struck(line, name, kind):
    """The line with one kind for an asker, without all kinds that fit it else; whoever has none left is left out."""
    struck = line.asker(name).fits
    askers = []
    for asker in line.askers():
        fits = [kind] if asker.name == name else [own for own in asker.fits if own not in struck]
        if len(fits) > 0:
            askers.append(Asker(asker.name, fits, asker.most))
    return Line(askers)
