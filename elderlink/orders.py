"""Which askers are linked, and which orders of the same askers deal alike for all stocks."""

from math import factorial

from elderlink.checks import is_stock
from elderlink.deals import dealt
from elderlink.errors import UnknownName, Unlike
from elderlink.house import need_line, without_noughts


def linked(line, name, near):
    """Whether some kind fits both askers."""
    need_line(line)
    return _share(line.asker(name).fits, line.asker(near).fits)


def group(line, name):
    """The names of an asker and of all elders from which a row of linked ones leads to it."""
    need_line(line)
    line.place(name)
    return _groups(_parents(line.askers()))[name]


def chain(line, name, elder):
    """A row of linked ones, as short as any, from an elder to an asker, all but it its elders; None without one."""
    need_line(line)
    place = line.place(name)
    if elder not in line.names()[:place]:
        raise UnknownName(elder)
    return shortest_row(line.askers()[:place + 1], elder, name, line.kinds())


def parent(line, name):
    """The name of the first one behind an asker that is linked to one of its group, None if there is none."""
    need_line(line)
    line.place(name)
    return _parents(line.askers())[name]


def forest(line):
    """All askers by rank, each with its parent."""
    need_line(line)
    return list(_parents(line.askers()).items())


def alike(one, other):
    """Whether two lines of the same askers deal alike."""
    _need_same(one, other)
    return _deal_alike(one, other)


def parting(one, other):
    """A stock and a name that gets unlike counts of it in two lines of the same askers, None if they deal alike."""
    _need_same(one, other)
    before = _groups(_parents(one.askers()))
    after = _groups(_parents(other.askers()))
    for name in before:
        # All ahead of the first one with unlike groups have the same in both: so its group can only have grown.
        if len(after[name]) > len(before[name]):
            return (_parting_stock(one, before[name], after[name]), name)
    return None


def check_parting(one, other, value):
    """Whether an object is such a tuple of a stock and a name."""
    _need_same(one, other)
    if not isinstance(value, tuple) or len(value) != 2 or not is_stock(value[0]):
        return False
    stock, name = value
    if name not in one.names():
        return False
    return dict(dealt(one.askers(), stock))[name] != dict(dealt(other.askers(), stock))[name]


def normal(line):
    """The line that deals alike in which, place by place, the least name stands that can stand there."""
    need_line(line)
    parents = _parents(line.askers())
    waits = {name: 0 for name in parents}
    for name in parents:
        if parents[name] is not None:
            waits[parents[name]] += 1
    names = []
    while len(waits) > 0:
        least = min([name for name in waits if waits[name] == 0])
        names.append(least)
        del waits[least]
        if parents[least] is not None:
            waits[parents[least]] -= 1
    return line.ordered(names)


def count_alike(line):
    """How many lines deal like one, itself among them."""
    need_line(line)
    groups = _groups(_parents(line.askers()))
    number = factorial(len(groups))
    for name in groups:
        number = number // len(groups[name])
    return number


def positions(line, name):
    """The least and the greatest position of an asker in all lines that deal alike."""
    need_line(line)
    line.place(name)
    parents = _parents(line.askers())
    return (len(_groups(parents)[name]) - 1, len(line) - 1 - len(_forebears(parents, name)))


def exchanges(one, other):
    """The positions of exchanges of neighbours from one line to the other by lines that deal alike, None without."""
    _need_same(one, other)
    if not _deal_alike(one, other):
        return None
    names = one.names()
    found = []
    # Each exchange puts two askers right that stand in unlike orders: so there are no fewer, and no link is passed.
    order = other.names()
    for at, name in enumerate(order):
        place = names.index(name)
        names.insert(at, names.pop(place))
        found.extend(list(range(place - 1, at - 1, -1)))
    return found


def touched(line, name):
    """The names of all others that get unlike counts, in some stock, with an asker and without it."""
    need_line(line)
    line.place(name)
    return _forebears(_parents(line.askers()), name)


def count_unlike(line):
    """In how many ways lines of the same askers deal."""
    need_line(line)
    return _count_ways(line.askers(), {})


def unlike_lines(line):
    """The normal lines of all ways in which lines of the same askers deal, ascending by their names."""
    need_line(line)
    return sorted([normal(line.ordered(names)) for names in _ways(line.askers())], key=lambda each: each.names())


def shortest_row(askers, first, last, kinds):
    """Names of askers from a first to a last one, as few as any, neighbours linked by some of the kinds, or None."""
    near = {asker.name: [kind for kind in asker.fits if kind in kinds] for asker in askers}
    ahead = {first: None}
    queue = [first]
    at = 0
    while at < len(queue) and last not in ahead:
        name = queue[at]
        for other in near:
            if other not in ahead and _share(near[name], near[other]):
                ahead[other] = name
                queue.append(other)
        at += 1
    return _walked(ahead, last)


def row_stock(askers, row, kinds):
    """A stock with a bag for the last one of a row by some kinds and as many as fill all others but the first one.

    If the first one is served, too, ahead of the last one, the bag goes up the row to it: each one between hands one
    to the one ahead of it on the row, and stays full with that of the one behind it.
    """
    fits = {asker.name: asker.fits for asker in askers}
    entries = []
    for ahead, name in zip(row, row[1:]):
        both = [kind for kind in kinds if kind in fits[ahead] and kind in fits[name]]
        entries.append((name, both[0], 1))
    return full_stock([asker for asker in askers if asker.name not in (row[0], row[-1])], entries)


def full_stock(askers, entries):
    """The stock of tuples (name, kind, number) and of bags that fill all of the askers whom one of their kinds fits."""
    counts = {}
    for _, kind, number in entries:
        counts[kind] = counts.get(kind, 0) + number
    used = sorted(counts)
    for asker in askers:
        near = [kind for kind in used if kind in asker.fits]
        if len(near) > 0:
            counts[near[0]] += asker.most - sum([number for name, _, number in entries if name == asker.name])
    return without_noughts(counts)


def _share(kinds, others):
    """Whether two lists of kinds have one in common."""
    return any([kind in others for kind in kinds])


def _need_same(one, other):
    """Raise an error unless these are two lines of the same askers."""
    need_line(one)
    need_line(other)
    if sorted(one.names()) != sorted(other.names()) or other.ordered(one.names()) != one:
        raise Unlike(other)


def _parents(askers):
    """For each asker, by rank, the name of its parent, or None."""
    parents = {}
    # For each one that has no parent so far, all kinds that fit some of its group.
    kinds_of = {}
    for asker in askers:
        joined = [name for name in kinds_of if _share(asker.fits, kinds_of[name])]
        kinds = {kind: True for kind in asker.fits}
        for name in joined:
            parents[name] = asker.name
            kinds.update(kinds_of.pop(name))
        parents[asker.name] = None
        kinds_of[asker.name] = kinds
    return parents


def _groups(parents):
    """For each asker the names of its group, by rank."""
    groups = {name: [] for name in parents}
    for name in parents:
        groups[name].append(name)
        for each in _forebears(parents, name):
            groups[each].append(name)
    return groups


def _forebears(parents, name):
    """The parent of an asker, the parent of this one, and so on."""
    found = []
    last = parents[name]
    while last is not None:
        found.append(last)
        last = parents[last]
    return found


def _deal_alike(one, other):
    return _parents(one.askers()) == _parents(other.askers())


def _parting_stock(line, before, after):
    """A stock of which the last one of a group gets a bag, but none behind a group that has more members.

    Both groups are lists of names by rank, each that of the same asker in a line of its own.
    """
    kinds = [kind for name in before for kind in line.asker(name).fits]
    near = [name for name in after if name not in before and _share(line.asker(name).fits, kinds)]
    askers = [line.asker(name) for name in [near[0], *before]]
    row = shortest_row(askers, near[0], before[-1], line.kinds())
    return row_stock(askers, row, line.kinds())


def _parts(askers):
    """The lists of those askers between whom rows of links lead, each in the order of the askers."""
    parents = _parents(askers)
    groups = _groups(parents)
    tops = [name for name in parents if parents[name] is None]
    return [[asker for asker in askers if asker.name in groups[top]] for top in tops]


def _count_ways(askers, known):
    """In how many ways lines of some askers deal; what is found is kept with the names in a dictionary."""
    names = tuple([asker.name for asker in askers])
    if names not in known:
        number = 1
        for part in _parts(askers):
            if len(part) > 1:
                number = number * sum([_count_ways(_others(part, last), known) for last in part])
        known[names] = number
    return known[names]


def _ways(askers):
    """For each way in which lines of some askers deal the names of one that deals so."""
    ways = [[]]
    for part in _parts(askers):
        # Whoever stands last in a part has all others of it for its group: no two ways are one for unlike last ones.
        tails = [[*names, last.name] for last in part for names in _ways(_others(part, last))]
        ways = [[*names, *tail] for names in ways for tail in tails]
    return ways


def _others(askers, left_out):
    return [asker for asker in askers if asker.name != left_out.name]


def _walked(ahead, last):
    """The row that leads to a name, each one's name told with the one ahead of it; None if it is not told."""
    if last not in ahead:
        return None
    row = []
    name = last
    while name is not None:
        row.append(name)
        name = ahead[name]
    return list(reversed(row))
