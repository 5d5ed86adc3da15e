"""What deals are worth: the best spreads, prices that show them to be the best, and what the rank costs."""

from elderlink.checks import is_count, is_whole
from elderlink.deals import END, START, deal, move, takers_of, widen
from elderlink.errors import InvalidNumbers, InvalidWorths
from elderlink.house import added, need_line, need_stock, taken


def best_worth(line, stock, worths):
    """The greatest worth of a spread of a stock to askers of a line."""
    return _worth_of(best_spread(line, stock, worths), worths)


def best_spread(line, stock, worths):
    """A spread with the greatest worth."""
    _need_all(line, stock, worths)
    return _best_entries(takers_of(line.askers()), stock, worths)


def prices(line, stock, worths):
    """Prices that hold and whose sum is the best worth."""
    return least_prices(line, stock, worths)


def check_prices(line, stock, worths, value):
    """Whether an object is such prices."""
    best = best_worth(line, stock, worths)
    if not isinstance(value, tuple) or len(value) != 2:
        return False
    kinds, askers = value
    if not _are_prices(line.kinds(), kinds) or not _are_prices(line.names(), askers):
        return False
    if any([kinds[kind] + askers[name] < worth for (name, kind), worth in worths.items()]):
        return False
    bags = sum([stock.get(kind, 0) * kinds[kind] for kind in kinds])
    return bags + sum([asker.most * askers[asker.name] for asker in line.askers()]) == best


def least_prices(line, stock, worths):
    """Those prices in which each kind has its least one."""
    best = best_worth(line, stock, worths)
    # A kind is worth at least what one bag more of it would add.
    kinds = {kind: best_worth(line, added(stock, {kind: 1}), worths) - best for kind in line.kinds()}
    return (kinds, _asker_prices(line, kinds, worths))


def greatest_prices(line, stock, worths):
    """Those prices in which each kind of which there is a bag has its greatest one, each other kind its least one."""
    best = best_worth(line, stock, worths)
    found = {}
    for kind in line.kinds():
        if stock.get(kind, 0) > 0:
            # A kind is worth at most what one bag less of it would take away.
            found[kind] = best - best_worth(line, taken(stock, {kind: 1}), worths)
    askers = _asker_prices(line, found, worths)
    kinds = {kind: found.get(kind, _needed_price(line, kind, askers, worths)) for kind in line.kinds()}
    return (kinds, askers)


def best_of_deal(line, stock, worths):
    """The greatest worth of a spread of the deal by rank."""
    return _worth_of(spread_of_deal(line, stock, worths), worths)


def spread_of_deal(line, stock, worths):
    """A spread of the deal by rank with the greatest worth."""
    _need_all(line, stock, worths)
    takers = [(asker.name, asker.fits, count) for asker, (_, count) in zip(line.askers(), deal(line, stock))]
    # With so much more for each bag no bag is left for what it is worth, and the best spread still is the best one.
    more = 1 + sum([abs(worth) for worth in worths.values()])
    return _best_entries(takers, stock, {pair: worths[pair] + more for pair in worths})


def rank_costs(line, stock, worths):
    """By how much the best worth is greater than that of the deal."""
    return best_worth(line, stock, worths) - best_of_deal(line, stock, worths)


def by_asker(line, numbers):
    """The worths in which each asker has one number for all kinds that fit it."""
    need_line(line)
    if not isinstance(numbers, list) or len(numbers) != len(line) or not all([is_whole(number) for number in numbers]):
        raise InvalidNumbers(numbers)
    return {(asker.name, kind): number for asker, number in zip(line.askers(), numbers) for kind in asker.fits}


def _need_all(line, stock, worths):
    need_line(line)
    need_stock(stock)
    if not _are_worths(line, worths):
        raise InvalidWorths(worths)


def _are_worths(line, value):
    """Whether an object is a dictionary from just the pairs of an asker and a kind that fits it to whole numbers."""
    pairs = [(asker.name, kind) for asker in line.askers() for kind in asker.fits]
    if not isinstance(value, dict) or len(value) != len(pairs):
        return False
    return all([pair in value and is_whole(value[pair]) for pair in pairs])


def _are_prices(keys, value):
    """Whether an object is a dictionary from just these keys to counts."""
    if not isinstance(value, dict) or len(value) != len(keys):
        return False
    return all([key in value and is_count(value[key]) for key in keys])


def _worth_of(entries, worths):
    return sum([number * worths[(name, kind)] for name, kind, number in entries])


def _asker_prices(line, kinds, worths):
    """The least prices of the askers with which these prices of some kinds hold."""
    found = {asker.name: 0 for asker in line.askers()}
    for name, kind in worths:
        if kind in kinds:
            found[name] = max(found[name], worths[(name, kind)] - kinds[kind])
    return found


def _needed_price(line, kind, askers, worths):
    """The least price of a kind with which these prices of the askers hold."""
    fitted = [asker.name for asker in line.askers() if kind in asker.fits]
    return max([0] + [worths[(name, kind)] - askers[name] for name in fitted])


def _best_entries(takers, stock, worths):
    """The spread with the greatest worth to takers (name, fits, most)."""
    room = {START: {}, END: {}}
    gains = {}
    for name, fits, most in takers:
        widen(room, ("taker", name), END, most)
        for kind in fits:
            widen(room, ("store", kind), ("taker", name), most)
            gains[(("store", kind), ("taker", name))] = worths[(name, kind)]
            gains[(("taker", name), ("store", kind))] = -worths[(name, kind)]
    for kind in sorted({kind for _, fits, _ in takers for kind in fits}):
        widen(room, START, ("store", kind), stock.get(kind, 0))
    came = _best_ways(room, gains)
    while END in came:
        move(room, came, END)
        came = _best_ways(room, gains)
    found = [(name, kind, room[("taker", name)][("store", kind)]) for name, fits, _ in takers for kind in fits]
    return sorted([entry for entry in found if entry[2] > 0])


def _best_ways(room, gains):
    """The places with the one ahead of each on a way that gains most; without the end if nothing is gained there."""
    # Of ways that gain as much the shortest ones: so their number hangs on the places alone, not on the counts.
    best = {START: (0, 0)}
    came = {START: None}
    queue = [START]
    at = 0
    while at < len(queue):
        place = queue[at]
        gain, steps = best[place]
        for near in room[place]:
            found = (gain + gains.get((place, near), 0), steps - 1)
            if room[place][near] > 0 and (near not in best or found > best[near]):
                best[near] = found
                came[near] = place
                queue.append(near)
        at += 1
    if END in came and best[END][0] <= 0:
        del came[END]
    return came
