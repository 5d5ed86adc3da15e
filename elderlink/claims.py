"""Told deals: which orders of the askers of a line deal so, and what all orders of them deal."""

from math import factorial

from elderlink.checks import are_names, is_stock
from elderlink.deals import are_counts, bits_of, deal, lot_sums
from elderlink.errors import InvalidTold
from elderlink.house import Line, need_line, need_stock
from elderlink.orders import forest, group, parting
from elderlink.shares import fraction


def order_for(line, book):
    """An order that deals so, None if there is none."""
    _need_book(line, book)
    places = _gone_on(line, book)
    if len(places) < len(line):
        return None
    return [line.names()[at] for at in places]


def stuck(line, book):
    """None if an order deals so, otherwise a lot from which no order can go on."""
    _need_book(line, book)
    places = _gone_on(line, book)
    if len(places) == len(line):
        return None
    return sorted([line.names()[at] for at in places])


def check_stuck(line, book, value):
    """Whether an object is such a lot."""
    _need_book(line, book)
    names = line.names()
    if not are_names(value) or value != sorted(value) or any([name not in names for name in value]):
        return False
    rows = _rows(line, book)
    lot = sum([bit for name, bit in zip(names, bits_of(names)) if name in value])
    told = [sum([count for name, count in pairs if name in value]) for _, pairs in book]
    if len(value) == len(line) or any([sums[lot] != count for (sums, _), count in zip(rows, told)]):
        return False
    return len(_next_places(line, rows, lot)) == 0


def count_orders(line, book):
    """How many orders deal so."""
    _need_book(line, book)
    return _ways(line, book)[-1]


def must(line, book):
    """The tuples of names of which the one stands ahead of the other in each order that deals so, None without."""
    _need_book(line, book)
    ways = _ways(line, book)
    if ways[-1] == 0:
        return None
    # If any order deals so, whoever has gone on can still come to all: so each of these lots stands first somewhere.
    lots = [lot for lot, number in enumerate(ways) if number > 0]
    told = list(zip(line.names(), bits_of(line.names())))
    found = []
    for name, bit in told:
        for other, near in told:
            if name != other and all([lot & near == 0 or lot & bit > 0 for lot in lots]):
                found.append((name, other))
    return sorted(found)


def nearest(line, book):
    """The fewest exchanges of neighbours to an order that deals so, and the first such order; None without one."""
    _need_book(line, book)
    names = line.names()
    bits = bits_of(names)
    rows = _rows(line, book)
    # For each lot the fewest exchanges behind it, with the order of the others, None if they can't go on to the end.
    best = [None for _ in range(sum(bits))] + [(0, [])]
    for lot in range(sum(bits) - 1, -1, -1):
        for at in _next_places(line, rows, lot):
            behind = best[lot + bits[at]]
            if behind is not None:
                passed = len([bit for bit in bits[:at] if lot & bit == 0])
                found = (behind[0] + passed, [names[at], *behind[1]])
                best[lot] = found if best[lot] is None else min(best[lot], found)
    return best[0]


def first_wronged(line, book):
    """None if the line itself deals so, otherwise where somebody first is told another count, both counts behind it."""
    _need_book(line, book)
    for place, (stock, told) in enumerate(book):
        for (name, right), (_, got) in zip(deal(line, stock), told):
            if right != got:
                return (place, name, right, got)
    return None


def lesson(line):
    """A book such that just those orders deal so in which the line deals alike."""
    need_line(line)
    book = []
    for name, above in forest(line):
        if above is not None:
            others = [each for each in group(line, above) if each not in (name, above)]
            # Nobody else is told anything by the order of these two, wherever the line has them side by side.
            one = Line([line.asker(each) for each in [*others, name, above]])
            stock, _ = parting(one, one.moved(above, len(others)))
            book.append((stock, deal(line, stock)))
    return book


def unlike_deals(line, stock):
    """The ascending list of all lists of counts, in the order of the line, that orders deal."""
    need_line(line)
    need_stock(stock)
    bits = bits_of(line.names())
    sums = lot_sums(line.askers(), stock)
    # For each lot what its askers can have got, in all ways of putting them first; the keys are tuples of counts.
    found = [{} for _ in sums]
    found[0][tuple([0 for _ in bits])] = True
    for lot, most in enumerate(sums):
        for at, bit in enumerate(bits):
            if lot & bit == 0:
                for counts in list(found[lot]):
                    more = (*counts[:at], sums[lot + bit] - most, *counts[at + 1:])
                    found[lot + bit][more] = True
    return sorted([list(counts) for counts in found[-1]])


def count_deals(line, stock):
    """How many unlike lists of counts orders deal."""
    return len(unlike_deals(line, stock))


def bounds(line, stock):
    """The least and the greatest count that each asker gets in any order."""
    need_line(line)
    need_stock(stock)
    sums = lot_sums(line.askers(), stock)
    found = []
    for name, bit in zip(line.names(), bits_of(line.names())):
        found.append((name, sums[-1] - sums[len(sums) - 1 - bit], sums[bit]))
    return found


def means(line, stock):
    """The mean of the counts that each asker gets in all orders."""
    need_line(line)
    need_stock(stock)
    many = len(line)
    sums = lot_sums(line.askers(), stock)
    sizes = [0]
    for _ in range(many):
        sizes = sizes + [size + 1 for size in sizes]
    found = []
    for name, bit in zip(line.names(), bits_of(line.names())):
        whole = 0
        for lot, size in enumerate(sizes):
            if lot & bit == 0:
                orders = factorial(size) * factorial(many - 1 - size)
                whole += orders * (sums[lot + bit] - sums[lot])
        found.append((name, fraction(whole, factorial(many))))
    return found


def _need_book(line, value):
    need_line(line)
    if not isinstance(value, list) or not all([_is_told(line, part) for part in value]):
        raise InvalidTold(value)


def _is_told(line, value):
    if not isinstance(value, tuple) or len(value) != 2:
        return False
    return is_stock(value[0]) and are_counts(line, value[1])


def _rows(line, book):
    """For each tuple of a book what each lot can get together, and the told counts by place."""
    return [(lot_sums(line.askers(), stock), [count for _, count in told]) for stock, told in book]


def _next_places(line, rows, lot):
    """The places of those outside of a lot that are told, in each tuple, just what is due to them behind it."""
    found = []
    for at, bit in enumerate(bits_of(line.names())):
        if lot & bit == 0 and all([sums[lot + bit] - sums[lot] == told[at] for sums, told in rows]):
            found.append(at)
    return found


def _gone_on(line, book):
    """The places of askers one behind the other, each told what is due to it, until nobody can go on."""
    bits = bits_of(line.names())
    rows = _rows(line, book)
    places = []
    following = _next_places(line, rows, 0)
    while len(following) > 0:
        places.append(following[0])
        following = _next_places(line, rows, sum([bits[at] for at in places]))
    return places


def _ways(line, book):
    """For each lot in how many ways its askers can stand first in an order that deals so, as far as they tell."""
    bits = bits_of(line.names())
    rows = _rows(line, book)
    ways = [1] + [0 for _ in range(sum(bits))]
    for lot in range(len(ways)):
        if ways[lot] > 0:
            for at in _next_places(line, rows, lot):
                ways[lot + bits[at]] += ways[lot]
    return ways
