"""Papers that show a deal: who gets less than its most, and with whom it has all bags of some kinds."""

from elderlink.checks import are_names, are_pairs
from elderlink.deals import START, check_spread, count_of, deal, dealt, poured, reach, spread, takers_of
from elderlink.house import fitting, held, need_line, need_stock


def shortage(line, stock, name):
    """None if an asker gets its most, otherwise names, its own among them, that have all bags that fit them."""
    need_line(line)
    need_stock(stock)
    return _short_lot(line.askers()[:line.place(name) + 1], stock)


def check_shortage(line, stock, name, value):
    """Whether an object is such a list of names for an asker that gets less than its most."""
    need_line(line)
    need_stock(stock)
    place = line.place(name)
    return _is_shortage(line, stock, dict(dealt(line.askers()[:place + 1], stock)), name, value)


def papers(line, stock):
    """The deal, a spread of it, and a shortage for each asker that gets less than its most."""
    counts = deal(line, stock)
    found = [(name, shortage(line, stock, name)) for name in line.names()]
    return (counts, spread(line, stock, counts), [(name, names) for name, names in found if names is not None])


def check_papers(line, stock, value):
    """Whether an object is such a tuple."""
    counts = deal(line, stock)
    if not isinstance(value, tuple) or len(value) != 3:
        return False
    told, entries, lots = value
    # A list of True and 1 would be equal to the deal, too.
    if not are_pairs(told) or told != counts:
        return False
    return check_spread(line, stock, told, entries) and _are_shortages(line, stock, counts, lots)


def harmed(one, other, stock):
    """The ascending names that stand in both lines and get less by the deal of the other one."""
    need_line(one)
    need_line(other)
    need_stock(stock)
    before = dict(dealt(one.askers(), stock))
    after = dict(dealt(other.askers(), stock))
    return sorted([name for name in before if name in after and after[name] < before[name]])


def _short_lot(askers, stock):
    """The shortage of the last one of a list of askers."""
    last = askers[-1]
    room = poured(takers_of(askers), stock)
    if count_of(room, last.name) == last.most:
        return None
    # No way through the start: it would lead to others that are short for reasons of their own.
    room[START] = {}
    came = reach(room, ("taker", last.name))
    return sorted([asker.name for asker in askers if ("taker", asker.name) in came])


def _is_shortage(line, stock, counts, name, value):
    """Whether an object is a shortage of an asker by the counts of it and its elders."""
    if counts[name] == line.asker(name).most:
        return False
    if not are_names(value) or name not in value or value != sorted(value):
        return False
    elders = line.names()[:line.place(name) + 1]
    if not all([each in elders for each in value]):
        return False
    return sum([counts[each] for each in value]) == held(stock, fitting(line, value))


def _are_shortages(line, stock, pairs, value):
    """Whether an object is a list of names with their shortages, of all that get less than their most."""
    if not isinstance(value, list) or not all([isinstance(lot, tuple) and len(lot) == 2 for lot in value]):
        return False
    counts = dict(pairs)
    if [lot[0] for lot in value] != [asker.name for asker in line.askers() if counts[asker.name] < asker.most]:
        return False
    return all([_is_shortage(line, stock, counts, name, names) for name, names in value])
