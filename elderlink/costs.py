"""What some askers can cost those behind them, and who stands between them."""

from elderlink.checks import are_names, is_count
from elderlink.deals import END, START, dealt, lots_of, push, reach, widen
from elderlink.errors import InvalidCount, InvalidNames, UnknownName
from elderlink.house import need_line, need_members, need_stock, total
from elderlink.orders import full_stock, row_stock, shortest_row


def cost(line, lot, stretch, stock):
    """How much more a stretch would get together of a stock if the askers of a lot were not in the line."""
    _need_sides(line, lot, stretch)
    need_stock(stock)
    others = [asker for asker in line.askers() if asker.name not in lot]
    return _got(others, stretch, stock) - _got(line.askers(), stretch, stock)


def greatest_cost(line, lot, stretch):
    """The greatest cost in all stocks."""
    _need_sides(line, lot, stretch)
    return _most(_barring(line, lot, stretch))


def worst_stock(line, lot, stretch):
    """A stock in which a lot costs a stretch as much as in any."""
    _need_sides(line, lot, stretch)
    room = _flooded(line, lot, stretch)
    entries = []
    for asker in _all_between(line, stretch):
        if asker.name not in lot:
            entries += [(asker.name, kind, room[("in", asker.name)][("kind", kind)]) for kind in asker.fits]
    # Bags go from the stretch, through others that stay full, to the lot if it comes: just as many as can pass.
    return full_stock(_others(line, lot, stretch), [entry for entry in entries if entry[2] > 0])


def barrier(line, lot, stretch):
    """Names on all rows from a lot to a stretch, whose mosts together are as little as can be."""
    _need_sides(line, lot, stretch)
    return [asker.name for asker in _barring(line, lot, stretch)]


def check_barrier(line, lot, stretch, value):
    """Whether an object is a list of names, by rank, one of which at least stands on each row."""
    _need_sides(line, lot, stretch)
    askers = _all_between(line, stretch)
    names = [asker.name for asker in askers]
    if not are_names(value) or [name for name in names if name in value] != value:
        return False
    free = [asker for asker in askers if asker.name not in value]
    ends = [(one, other) for one in lot for other in stretch if one not in value and other not in value]
    return all([shortest_row(free, one, other, line.kinds()) is None for one, other in ends])


def whom(line, name):
    """The askers to whom an asker alone can cost something, each with the greatest cost."""
    need_line(line)
    behind = line.names()[line.place(name) + 1:]
    costs = [(other, _most(_barring(line, [name], [other]))) for other in behind]
    return [(other, count) for other, count in costs if count > 0]


def newcomer(line, asker, at):
    """The same list for an asker that would be put in at a position."""
    need_line(line)
    return whom(line.put_in(asker, at), asker.name)


def eased(line, lot, stretch, bound):
    """Lesser mosts, as little less as can be in all, by which the greatest cost is at most a bound."""
    _need_sides(line, lot, stretch)
    if not is_count(bound):
        raise InvalidCount(bound)
    barring = _barring(line, lot, stretch)
    over = _most(barring) - bound
    found = []
    for asker in barring:
        if over > 0:
            off = min(over, asker.most)
            found.append((asker.name, asker.most - off))
            over -= off
    return found


def first_cost(line, name, other):
    """The least number of bags of a stock in which an asker costs one behind it something, None if there is none."""
    stock = first_stock(line, name, other)
    if stock is None:
        return None
    return total(stock)


def first_stock(line, name, other):
    """A stock of so few bags in which it does, None if there is none."""
    need_line(line)
    if other not in line.names()[line.place(name) + 1:]:
        raise UnknownName(other)
    askers = line.askers()[:line.place(other) + 1]
    elders = [asker for asker in askers if asker.name not in (name, other)]
    least = None
    found = None
    for kinds in lots_of(line.kinds())[1:]:
        mosts = sum([elder.most for elder in elders if any([kind in kinds for kind in elder.fits])])
        if least is None or mosts < least:
            row = shortest_row(askers, name, other, kinds)
            if row is not None:
                least = mosts
                found = row_stock(askers, row, kinds)
    return found


def _need_sides(line, lot, stretch):
    """Raise an error unless these are a line, a lot of it and a stretch behind the lot."""
    need_members(line, lot)
    if len(lot) == 0:
        raise InvalidNames(lot)
    need_members(line, stretch)
    if len(stretch) == 0:
        raise InvalidNames(stretch)
    at = line.place(stretch[0])
    if line.names()[at:at + len(stretch)] != stretch or any([line.place(name) >= at for name in lot]):
        raise InvalidNames(stretch)


def _got(askers, names, stock):
    """How much the askers with some names get together by a deal."""
    return sum([count for name, count in dealt(askers, stock) if name in names])


def _all_between(line, stretch):
    """The askers of the lot, the others and the stretch."""
    return line.askers()[:line.place(stretch[-1]) + 1]


def _others(line, lot, stretch):
    return [asker for asker in line.askers()[:line.place(stretch[0])] if asker.name not in lot]


def _flooded(line, lot, stretch):
    """The room of ways from a lot to a stretch, each asker as wide as its most, with as much on them as can be."""
    askers = _all_between(line, stretch)
    # No more than all mosts can pass: so the kinds, which are that wide, never hold anything up.
    wide = sum([asker.most for asker in askers])
    room = {START: {}, END: {}}
    for asker in askers:
        way_in, way_out = _doors(asker.name, lot, stretch)
        widen(room, way_in, way_out, asker.most)
        for kind in asker.fits:
            if asker.name not in lot:
                widen(room, ("kind", kind), way_in, wide)
            if asker.name not in stretch:
                widen(room, way_out, ("kind", kind), wide)
    push(room, START, END)
    return room


def _doors(name, lot, stretch):
    """The places between which the way through an asker lies."""
    if name in lot:
        return (START, ("out", name))
    if name in stretch:
        return (("in", name), END)
    return (("in", name), ("out", name))


def _barring(line, lot, stretch):
    """The askers of a barrier with mosts as little as any's, by rank."""
    came = reach(_flooded(line, lot, stretch), START)
    found = []
    for asker in _all_between(line, stretch):
        way_in, way_out = _doors(asker.name, lot, stretch)
        if way_in in came and way_out not in came:
            found.append(asker)
    return found


def _most(askers):
    return sum([asker.most for asker in askers])
