"""What askers get of a stock, together and by rank; which bags they can get for it, and what these leave."""

from elderlink.checks import are_pairs, is_name, is_whole
from elderlink.errors import InvalidDeal, InvalidNames
from elderlink.house import Asker, Line, need_line, need_members, need_stock, without_noughts

START = "start"
END = "end"


def together(line, names, stock):
    """The most bags that the askers with these names can get together."""
    need_members(line, names)
    need_stock(stock)
    return sum([count for _, count in dealt([line.asker(name) for name in names], stock)])


def due(line, name, elders, stock):
    """What an asker gets if the askers of a list are served ahead of it."""
    need_line(line)
    asker = line.asker(name)
    need_members(line, elders)
    if name in elders:
        raise InvalidNames(elders)
    need_stock(stock)
    served = [line.asker(elder) for elder in elders]
    return dealt([*served, asker], stock)[-1][1]


def deal(line, stock):
    """What each asker gets behind all its elders."""
    need_line(line)
    need_stock(stock)
    return dealt(line.askers(), stock)


def spread(line, stock, value):
    """Bags of the stock by which each asker has its count of a list, None if there are too few."""
    need_counts(line, stock, value)
    takers = [(asker.name, asker.fits, count) for asker, (_, count) in zip(line.askers(), value)]
    room = poured(takers, stock)
    if any([count_of(room, name) < count for name, count in value]):
        return None
    found = [(name, kind, room[("store", kind)][("taker", name)]) for name, fits, _ in takers for kind in fits]
    return sorted([entry for entry in found if entry[2] > 0])


def check_spread(line, stock, value, found):
    """Whether an object is a spread of a list of counts."""
    need_counts(line, stock, value)
    if not _are_entries(found):
        return False
    fits = {asker.name: asker.fits for asker in line.askers()}
    if not all([name in fits and kind in fits[name] for name, kind, _ in found]):
        return False
    used = _summed([(kind, number) for _, kind, number in found])
    if any([used[kind] > stock.get(kind, 0) for kind in used]):
        return False
    gets = _summed([(name, number) for name, _, number in found])
    return all([gets.get(name, 0) == count for name, count in value])


def left(line, stock, value):
    """What is left of a stock behind a list of counts, as much as can be of the first kinds; None without a spread."""
    need_counts(line, stock, value)
    wants = dict(value)
    # The kinds take askers here: whoever takes ahead takes most, so the kinds that are to be left come last.
    takers = [(kind, _whom_it_fits(line, kind), stock[kind]) for kind in sorted(stock, reverse=True)]
    room = poured(takers, wants)
    used = {kind: count_of(room, kind) for kind in stock}
    if sum(used.values()) < sum(wants.values()):
        return None
    return without_noughts({kind: stock[kind] - used[kind] for kind in stock})


def given_out(line, stock):
    """The deal, and the line and the stock that are left when it has been given out."""
    counts = deal(line, stock)
    askers = []
    for asker, (_, count) in zip(line.askers(), counts):
        if count < asker.most:
            askers.append(Asker(asker.name, asker.fits, asker.most - count))
    return (counts, Line(askers), left(line, stock, counts))


def need_counts(line, stock, value):
    """Raise an error unless these are a line, a stock, and a list of one count for each asker of the line."""
    need_line(line)
    need_stock(stock)
    if not are_counts(line, value):
        raise InvalidDeal(value)


def are_counts(line, value):
    """Whether an object is a list of one count for each asker of a line, none more than its most."""
    if not are_pairs(value) or [name for name, _ in value] != line.names():
        return False
    return all([count <= asker.most for asker, (_, count) in zip(line.askers(), value)])


def dealt(askers, stock):
    """The deal of a list of askers with unlike names."""
    room = poured(takers_of(askers), stock)
    return [(asker.name, count_of(room, asker.name)) for asker in askers]


def takers_of(askers):
    """Each asker as one who takes bags: its name, the kinds that fit it, and its most."""
    return [(asker.name, asker.fits, asker.most) for asker in askers]


def lot_sums(askers, stock):
    """The most bags that each lot of a list of askers can get together.

    A lot is told by the sum of the bits of its askers, 1 for the first one, 2 for the next one, then 4 and so on.
    """
    bits = bits_of(askers)
    whom = {}
    for bit, asker in zip(bits, askers):
        for kind in asker.fits:
            whom[kind] = whom.get(kind, 0) + bit
    sums = []
    for lot in range(1 + sum(bits)):
        sums.append(sum([stock.get(kind, 0) for kind in whom if whom[kind] & lot > 0]))
    # No lot gets more than all bags that fit some of it and the mosts of the others of it, whichever these are; the
    # least of these sums can be got.
    for bit, asker in zip(bits, askers):
        for lot in range(1 + sum(bits)):
            if lot & bit > 0:
                sums[lot] = min(sums[lot], sums[lot - bit] + asker.most)
    return sums


def bits_of(askers):
    """The bit of each asker of a list."""
    bits = []
    bit = 1
    for _ in askers:
        bits.append(bit)
        bit += bit
    return bits


def lots_of(things):
    """All lots of a list of things, the first of them the empty one."""
    found = [[]]
    for thing in things:
        found = found + [[*lot, thing] for lot in found]
    return found


def poured(takers, stores):
    """The room of ways from takers to stores, each taker having taken as much as it can behind those ahead of it."""
    room = {START: {}, END: {}}
    for name, fits, most in takers:
        for kind in fits:
            widen(room, ("taker", name), ("store", kind), most)
    for kind in sorted({kind for _, fits, _ in takers for kind in fits}):
        widen(room, ("store", kind), END, stores.get(kind, 0))
    for name, _, most in takers:
        # Whoever has taken keeps its count from here on: only from which store it takes can still change.
        widen(room, START, ("taker", name), most)
        push(room, START, END)
    return room


def count_of(room, name):
    """How much a taker has taken."""
    return room[("taker", name)][START]


def widen(room, one, other, many):
    """Make the way from one place to another one wider by so many."""
    ahead = room.setdefault(one, {})
    back = room.setdefault(other, {})
    ahead[other] = ahead.get(other, 0) + many
    back[one] = back.get(one, 0)


def push(room, start, end):
    """Move as much as can be from one place to another one."""
    came = reach(room, start)
    while end in came:
        move(room, came, end)
        came = reach(room, start)


def move(room, came, end):
    """Move as much as can be on a way to a place: what has gone a way can come back on it."""
    steps = _steps(came, end)
    many = min([room[one][other] for one, other in steps])
    for one, other in steps:
        room[one][other] -= many
        room[other][one] += many


def reach(room, start):
    """The places to which there is a way, each with the one ahead of it on a way with as few steps as any."""
    came = {start: None}
    queue = [start]
    at = 0
    # Shortest ways first: so their number hangs on the places alone, however great the counts are.
    while at < len(queue):
        place = queue[at]
        ways = room[place]
        for near in ways:
            if ways[near] > 0 and near not in came:
                came[near] = place
                queue.append(near)
        at += 1
    return came


def _steps(came, end):
    """The steps of the way to a place, the last one first."""
    steps = []
    place = end
    while came[place] is not None:
        steps.append((came[place], place))
        place = came[place]
    return steps


def _whom_it_fits(line, kind):
    return [asker.name for asker in line.askers() if kind in asker.fits]


def _are_entries(value):
    """Whether an object is an ascending list of tuples of a name, a kind and a number, no name and kind twice."""
    if not isinstance(value, list) or not all([_is_entry(entry) for entry in value]):
        return False
    pairs = [(name, kind) for name, kind, _ in value]
    return pairs == sorted(set(pairs))


def _is_entry(value):
    if not isinstance(value, tuple) or len(value) != 3:
        return False
    return is_name(value[0]) and is_name(value[1]) and is_whole(value[2]) and value[2] >= 1


def _summed(pairs):
    """For each key of the pairs the sum of the numbers that stand with it."""
    sums = {}
    for key, number in pairs:
        sums[key] = sums.get(key, 0) + number
    return sums
