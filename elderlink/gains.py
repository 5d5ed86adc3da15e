"""Who gains by a bag more and loses by a bag less, and how many bags it takes to help somebody."""

from elderlink.checks import are_unlike, is_count
from elderlink.deals import check_spread, count_of, deal, dealt, due, poured, spread
from elderlink.errors import InvalidCount, InvalidStock
from elderlink.house import Asker, added, need_kind, need_line, need_stock, taken
from elderlink.orders import full_stock, group, shortest_row


def gainer(line, stock, kind):
    """The name of the asker that gets more if the stock has one bag more of a kind, None if none does."""
    _need_bag(line, stock, kind)
    return better_off(deal(line, stock), deal(line, added(stock, {kind: 1})))


def loser(line, stock, kind):
    """The name of the asker that gets less if the stock has one bag less of a kind, None if none does."""
    _need_bag(line, stock, kind)
    if stock.get(kind, 0) == 0:
        return None
    return better_off(deal(line, taken(stock, {kind: 1})), deal(line, stock))


def gain_way(line, stock, kind):
    """A spread of the deal, and the askers from hand to hand to whom one bag more of a kind moves the gain, or None."""
    last = gainer(line, stock, kind)
    if last is None:
        return None
    entries = spread(line, stock, deal(line, stock))
    return (entries, _way(line, entries, kind, last))


def check_way(line, stock, kind, value):
    """Whether an object is such a tuple of a spread of the deal and a way."""
    last = gainer(line, stock, kind)
    if last is None or not isinstance(value, tuple) or len(value) != 2:
        return False
    entries, way = value
    if not check_spread(line, stock, deal(line, stock), entries):
        return False
    return _are_steps(line, way) and way[0][0] == kind and way[-1][1] == last and _are_handed(entries, way)


def can_help(line, kind):
    """The names, by rank, of all askers that get more by one bag more of a kind at some stock."""
    need_line(line)
    need_kind(kind)
    return [name for name in line.names() if len(_helpers(line, kind, name)) > 0]


def help_stock(line, kind, name):
    """A stock at which the asker with a name gets more by one bag more of a kind, None if there is none."""
    need_line(line)
    need_kind(kind)
    elders = line.askers()[:line.place(name)]
    helpers = _helpers(line, kind, name)
    if len(helpers) == 0:
        return None
    row = shortest_row([*elders, line.asker(name)], helpers[0], name, line.kinds())
    entries = [(row[0], kind, 0)]
    for giver, receiver in zip(row, row[1:]):
        near = line.asker(receiver).fits
        entries.append((giver, [each for each in line.asker(giver).fits if each in near][0], 1))
    # All elders that could keep the bag more are full, so each of the row hands one on, and the last one gets it.
    return full_stock(elders, entries)


def between(line, low, high):
    """The least and the greatest count that each asker gets at the stocks from a low to a high one."""
    need_line(line)
    need_stock(low)
    need_stock(high)
    if any([low[kind] > high.get(kind, 0) for kind in low]):
        raise InvalidStock(high)
    return [(name, least, most) for (name, least), (_, most) in zip(deal(line, low), deal(line, high))]


def least_stock(line, name, wish):
    """The least number of bags of a stock at which the asker with a name gets at least so many."""
    _need_wish(line, name, wish)
    return _least_number(line, {}, name, wish)


def least_help(line, stock, name, wish):
    """How many bags more an asker needs to get so many, and of which kinds so many alone do it."""
    need_line(line)
    need_stock(stock)
    _need_wish(line, name, wish)
    number = _least_number(line, stock, name, wish)
    if number == 0:
        return (0, [])
    elders = line.names()[:line.place(name)]
    return (number, [kind for kind in line.kinds() if due(line, name, elders, added(stock, {kind: number})) >= wish])


def spare(line, stock):
    """Each kind of which there are bags, with how many of it alone can be taken so that the deal stays."""
    counts = deal(line, stock)
    takers = [(asker.name, asker.fits, count) for asker, (_, count) in zip(line.askers(), counts)]
    all_given = sum([count for _, count in counts])
    found = []
    for kind in sorted(stock):
        if stock[kind] > 0:
            # As many bags as can be come from the other kinds: only what is short of the deal then is this one's.
            room = poured(takers, {other: stock[other] for other in stock if other != kind})
            needed = all_given - sum([count_of(room, name) for name, _ in counts])
            found.append((kind, stock[kind] - needed))
    return found


def waits_for(line, name):
    """The names of the elders of an asker that get their most wherever the asker gets a bag."""
    need_line(line)
    place = line.place(name)
    fits = line.asker(name).fits
    return [elder.name for elder in line.askers()[:place] if all([kind in elder.fits for kind in fits])]


def same_kinds(line, one, other):
    """Whether two kinds fit the same askers."""
    need_line(line)
    need_kind(one)
    need_kind(other)
    return all([(one in asker.fits) == (other in asker.fits) for asker in line.askers()])


def payer(line, stock, name):
    """The name of the asker that gets less if the most of the one with a name is one more, None if none does."""
    need_line(line)
    need_stock(stock)
    asker = line.asker(name)
    keener = line.changed(Asker(name, asker.fits, asker.most + 1))
    return better_off(deal(keener, stock), deal(line, stock))


def better_off(before, after):
    """The name of the one that gets more by a second deal than by a first one, None if none does."""
    counts = dict(before)
    for name, count in after:
        if count > counts[name]:
            return name
    return None


def _need_bag(line, stock, kind):
    need_line(line)
    need_stock(stock)
    need_kind(kind)


def _need_wish(line, name, wish):
    need_line(line)
    asker = line.asker(name)
    if not is_count(wish) or wish > asker.most:
        raise InvalidCount(wish)


def _way(line, entries, kind, last):
    """The steps (kind, name) by which one bag more of a kind moves bags of a spread up to the last one."""
    came = {}
    offers = [(kind, None)]
    at = 0
    while at < len(offers):
        offered, giver = offers[at]
        for asker in line.askers():
            if offered in asker.fits and asker.name not in came:
                came[asker.name] = (offered, giver)
                offers += [(own, name) for name, own, _ in entries if name == asker.name]
        at += 1
    way = []
    name = last
    while name is not None:
        offered, giver = came[name]
        way.append((offered, name))
        name = giver
    return list(reversed(way))


def _are_steps(line, value):
    """Whether an object is a list, not empty, of tuples of a kind and a different asker each, whom the kind fits."""
    if not isinstance(value, list) or len(value) == 0 or not all([_is_step(line, step) for step in value]):
        return False
    return are_unlike([name for _, name in value])


def _is_step(line, value):
    if not isinstance(value, tuple) or len(value) != 2:
        return False
    return value[1] in line.names() and value[0] in line.asker(value[1]).fits


def _are_handed(entries, way):
    """Whether each asker of a way but the last one has a bag of the next kind by a spread."""
    owned = [(name, kind) for name, kind, _ in entries]
    return all([(giver, kind) in owned for (_, giver), (kind, _) in zip(way, way[1:])])


def _helpers(line, kind, name):
    """Those of the group of an asker whom a kind fits."""
    return [each for each in group(line, name) if kind in line.asker(each).fits]


def _least_number(line, stock, name, wish):
    """The least number of bags by which an asker gets so many."""
    askers = line.askers()[:line.place(name) + 1]
    counts = dealt(askers, stock)
    if counts[-1][1] >= wish:
        return 0
    plenty = sum([asker.most for asker in askers])
    floods = []
    for kind in askers[-1].fits:
        floods.append(sum([count for _, count in dealt(askers[:-1], added(stock, {kind: plenty}))]))
    # With bags of one kind alone the elders get all they can of it first, then the asker one with each bag more.
    return min(floods) + wish - sum([count for _, count in counts])
