"""Shares of equals: the fairest ones, even deals in whole bags, and which ranks share alike for all stocks."""

from math import gcd, lcm

from elderlink.checks import are_pairs, are_unlike, is_count, is_stock, is_whole
from elderlink.deals import bits_of, lot_sums, lots_of
from elderlink.errors import InvalidDeal, InvalidRanks, InvalidShares, Unlike
from elderlink.house import Asker, Line, need_stock
from elderlink.orders import group, linked, row_stock, shortest_row


class Ranks:
    """Classes of askers with unlike names, the eldest first; the order in a class means nothing."""

    def __init__(self, classes):
        if not _are_classes(classes):
            raise InvalidRanks(classes)
        self._classes = tuple([tuple(sorted(askers, key=lambda asker: asker.name)) for askers in classes])

    def classes(self):
        """The classes, each one's askers in ascending order of their names."""
        return [list(askers) for askers in self._classes]

    def line(self):
        """The line of all askers, class by class."""
        return Line([asker for askers in self._classes for asker in askers])

    def __len__(self):
        return len(self._classes)

    def __eq__(self, other):
        return isinstance(other, Ranks) and self._classes == other._classes


def class_sums(ranks, stock):
    """What the askers of each class get together behind all elder ones."""
    _need_both(ranks, stock)
    sums = lot_sums(ranks.line().askers(), stock)
    return [sums[elders + sum(bits)] - sums[elders] for elders, bits in _class_bits(ranks)]


def fair(ranks, stock):
    """The fairest shares."""
    fractions = {}
    for found in blocks(ranks, stock):
        for names, part in found:
            for name in names:
                fractions[name] = part
    return [(name, fractions[name]) for name in ranks.line().names()]


def blocks(ranks, stock):
    """For each class the lots of those that get the same fraction in the fairest shares, the least fraction first."""
    _need_both(ranks, stock)
    sums = lot_sums(ranks.line().askers(), stock)
    return [_class_blocks(ranks, sums, elders, bits) for elders, bits in _class_bits(ranks)]


def unfair(ranks, stock, shares):
    """None if shares are the fairest, otherwise what shows that they are not."""
    _need_shares(ranks, stock, shares)
    found = _faults(ranks, stock, shares)
    return found[0] if len(found) > 0 else None


def check_unfair(ranks, stock, shares, value):
    """Whether an object shows that shares are not the fairest."""
    _need_shares(ranks, stock, shares)
    # True would be equal to the position 1.
    if not isinstance(value, tuple) or any([isinstance(part, bool) for part in value]):
        return False
    return value in _faults(ranks, stock, shares)


def even(ranks, stock):
    """A whole deal in which the counts of each class, from the least on, are as great as can be."""
    parts = [part for found in blocks(ranks, stock) for part in found]
    names = ranks.line().names()
    floors = {name: top // bottom for lot, (top, bottom) in parts for name in lot}
    counts = [floors[name] for name in names]
    sums = lot_sums(ranks.line().askers(), stock)
    # Each count is the fraction rounded down or up: the least ones are the first to be rounded up where there is room.
    for lot, _ in parts:
        for name in lot:
            at = names.index(name)
            if _has_room(sums, counts, bits_of(names)[at]):
                counts[at] += 1
    return list(zip(names, counts))


def even_rows(ranks, stock):
    """For each class the counts of an even deal in rising order."""
    return _rows(ranks, even(ranks, stock))


def check_even(ranks, stock, value):
    """Whether an object is an even deal."""
    rows = even_rows(ranks, stock)
    return _is_whole_deal(ranks, stock, value) and _rows(ranks, value) == rows


def evener(ranks, stock, told):
    """Two equals of whom the first one can give the other one a bag of a whole deal, None if the deal is even."""
    _need_both(ranks, stock)
    if not _is_whole_deal(ranks, stock, told):
        raise InvalidDeal(told)
    counts = [count for _, count in told]
    pairs = _movable(ranks, stock, 1, counts)
    amounts = dict(told)
    found = [(giver, receiver) for receiver, giver in pairs if amounts[giver] - amounts[receiver] > 1]
    return found[0] if len(found) > 0 else None


def span(ranks, stock):
    """The least and the greatest count that each asker gets in deals of lines with the classes in their order."""
    _need_both(ranks, stock)
    sums = lot_sums(ranks.line().askers(), stock)
    found = []
    for elders, bits in _class_bits(ranks):
        whole = elders + sum(bits)
        found += [(sums[whole] - sums[whole - bit], sums[elders + bit] - sums[elders]) for bit in bits]
    return [(name, least, most) for name, (least, most) in zip(ranks.line().names(), found)]


def parted(ranks):
    """The ranks in which each class is parted into those of its askers that are joined."""
    need_ranks(ranks)
    joined = _all_joined(ranks)
    classes = []
    for askers in ranks.classes():
        done = []
        for asker in askers:
            equals = joined[asker.name][1]
            if asker.name not in done:
                classes.append([each for each in askers if each.name in equals])
                done += equals
    return Ranks(classes)


def alike_ranks(one, other):
    """Whether each asker has the same fraction in the fairest shares of both ranks, for all stocks."""
    _need_same(one, other)
    return _all_joined(one) == _all_joined(other)


def parting_ranks(one, other):
    """A stock and a name that has unlike fractions of it in the fairest shares of both ranks, None without."""
    _need_same(one, other)
    before = _all_joined(one)
    after = _all_joined(other)
    names = [name for name in before if before[name] != after[name]]
    if len(names) == 0:
        return None
    sides = [(before, name, other) for name in names] + [(after, name, one) for name in names]
    sizes = [len([*joined[name][0], *joined[name][1]]) for joined, name, _ in sides]
    joined, name, ranks = sides[sizes.index(min(sizes))]
    return _parting_pair([*joined[name][0], *joined[name][1]], name, ranks)


def check_parting_ranks(one, other, value):
    """Whether an object is such a tuple of a stock and a name."""
    _need_same(one, other)
    if not isinstance(value, tuple) or len(value) != 2 or not is_stock(value[0]):
        return False
    stock, name = value
    if name not in one.line().names():
        return False
    return dict(fair(one, stock))[name] != dict(fair(other, stock))[name]


def harmed_shares(one, other, stock):
    """The ascending names that stand in both ranks and have a lesser fraction in the fairest shares of the other."""
    need_ranks(one)
    need_ranks(other)
    need_stock(stock)
    before = dict(fair(one, stock))
    after = dict(fair(other, stock))
    return sorted([name for name in before if name in after and _is_less(after[name], before[name])])


def need_ranks(value):
    """Raise InvalidRanks for an object that is no ranks."""
    if not isinstance(value, Ranks):
        raise InvalidRanks(value)


def fraction(top, bottom):
    """The fraction of two counts, the bottom above 0, without a common divisor."""
    common = gcd(top, bottom)
    return (top // common, bottom // common)


def _need_both(ranks, stock):
    need_ranks(ranks)
    need_stock(stock)


def _need_shares(ranks, stock, value):
    _need_both(ranks, stock)
    if not isinstance(value, list) or not all([_is_share(part) for part in value]):
        raise InvalidShares(value)
    if [name for name, _ in value] != ranks.line().names():
        raise InvalidShares(value)


def _need_same(one, other):
    """Raise an error unless these are two ranks of the same askers."""
    need_ranks(one)
    need_ranks(other)
    names = one.line().names()
    if sorted(names) != sorted(other.line().names()) or other.line().ordered(names) != one.line():
        raise Unlike(other)


def _are_classes(value):
    """Whether an object is a list of lists, none empty, of askers with unlike names."""
    if not isinstance(value, list) or not all([isinstance(part, list) and len(part) > 0 for part in value]):
        return False
    askers = [asker for part in value for asker in part]
    return all([isinstance(asker, Asker) for asker in askers]) and are_unlike([asker.name for asker in askers])


def _is_share(value):
    if not isinstance(value, tuple) or len(value) != 2:
        return False
    part = value[1]
    if not isinstance(part, tuple) or len(part) != 2 or not is_count(part[0]) or not is_whole(part[1]):
        return False
    return part[1] >= 1 and gcd(part[0], part[1]) == 1


def _is_less(one, other):
    return one[0] * other[1] < other[0] * one[1]


def _class_bits(ranks):
    """For each class the lot of all elders of it, and the bits of its askers, as lot_sums tells them."""
    bits = bits_of(ranks.line().names())
    found = []
    start = 0
    for askers in ranks.classes():
        end = start + len(askers)
        found.append((sum(bits[:start]), bits[start:end]))
        start = end
    return found


def _names_of(ranks, lot):
    """The ascending names of a lot."""
    names = ranks.line().names()
    return sorted([name for name, bit in zip(names, bits_of(names)) if lot & bit > 0])


def _class_blocks(ranks, sums, elders, bits):
    """The blocks of a class with these bits."""
    found = []
    rest = bits
    while len(rest) > 0:
        least = None
        block = []
        for lot in lots_of(rest)[1:]:
            part = (sums[elders + sum(lot)] - sums[elders], len(lot))
            # Two lots with the least part are together such a lot, too, which comes behind both: so the last one is
            # the greatest one.
            if least is None or not _is_less(least, part):
                least = part
                block = lot
        found.append((_names_of(ranks, sum(block)), fraction(least[0], least[1])))
        elders += sum(block)
        rest = [bit for bit in rest if bit not in block]
    return found


def _added_up(amounts):
    """The sums of the amounts of each lot."""
    found = [0]
    for amount in amounts:
        found = found + [each + amount for each in found]
    return found


def _has_room(sums, counts, bit):
    """Whether the asker with a bit can get one more, all others keeping their counts."""
    totals = _added_up(counts)
    return all([totals[lot] < most for lot, most in enumerate(sums) if lot & bit > 0])


def _faults(ranks, stock, shares):
    """All that shows that shares are not the fairest, as far as one thing does not come ahead of the other ones."""
    common = 1
    for _, (_, bottom) in shares:
        common = lcm(common, bottom)
    amounts = [top * (common // bottom) for _, (top, bottom) in shares]
    sums = lot_sums(ranks.line().askers(), stock)
    totals = _added_up(amounts)
    much = [("much", _names_of(ranks, lot)) for lot, most in enumerate(sums) if totals[lot] > most * common]
    if len(much) > 0:
        return much
    less = []
    for place, (elders, bits) in enumerate(_class_bits(ranks)):
        if totals[sum(bits)] < (sums[elders + sum(bits)] - sums[elders]) * common:
            less.append(("less", place))
    if len(less) > 0:
        return less
    return [("raise", name, other) for name, other in _movable(ranks, stock, common, amounts)]


def _movable(ranks, stock, common, amounts):
    """The pairs of equals of whom the first one has less and could get some of the other one's bags.

    The amounts are told in parts, so many of a bag, and can be had.
    """
    sums = lot_sums(ranks.line().askers(), stock)
    totals = _added_up(amounts)
    # Lots that have all they can get: what comes to one of them has to come from another one of the same lot.
    full = [lot for lot, most in enumerate(sums) if totals[lot] == most * common]
    names = ranks.line().names()
    told = list(zip(names, bits_of(names), amounts))
    classes = [[asker.name for asker in askers] for askers in ranks.classes()]
    found = []
    for name, bit, amount in told:
        equals = [askers for askers in classes if name in askers][0]
        for other, near, more in told:
            if other in equals and amount < more and all([lot & bit == 0 or lot & near > 0 for lot in full]):
                found.append((name, other))
    return found


def _is_whole_deal(ranks, stock, value):
    """Whether an object is a list of counts that are full shares."""
    if not are_pairs(value) or [name for name, _ in value] != ranks.line().names():
        return False
    sums = lot_sums(ranks.line().askers(), stock)
    totals = _added_up([count for _, count in value])
    if any([totals[lot] > most for lot, most in enumerate(sums)]):
        return False
    return all([totals[sum(bits)] == sums[elders + sum(bits)] - sums[elders] for elders, bits in _class_bits(ranks)])


def _rows(ranks, pairs):
    counts = dict(pairs)
    return [sorted([counts[asker.name] for asker in askers]) for askers in ranks.classes()]


def _all_joined(ranks):
    """For each asker the names of the elder ones with whom it is joined, and of its equals, itself among them."""
    ahead = _up_to_classes(ranks)
    found = {}
    for askers in ranks.classes():
        equals = [asker.name for asker in askers]
        for name in equals:
            joined = _rows_lead_to(ahead[name], name)
            elders = sorted([each for each in joined if each not in equals])
            found[name] = (elders, sorted([each for each in joined if each in equals]))
    return found


def _up_to_classes(ranks):
    """For each asker all askers of its class and of elder ones, class by class."""
    found = {}
    ahead = []
    for askers in ranks.classes():
        ahead = [*ahead, *askers]
        for asker in askers:
            found[asker.name] = ahead
    return found


def _rows_lead_to(askers, name):
    """The names of those of some askers from whom rows of linked ones of them lead to one of them."""
    line = Line(askers)
    # With this one put last all others stand ahead of it: so its group are those from whom rows lead to it.
    return group(line.moved(name, len(line) - 1), name)


def _parting_pair(joined, name, ranks):
    """A stock, and a name that gets none of it in the ranks in which just these are joined with an asker.

    The ranks passed are the other ones, in which the asker is joined with unlike ones. No asker with fewer joined
    with it in either ranks is joined with unlike ones: so in the other ranks somebody else is linked to those that are
    still joined with the asker there, who stands in a younger class in the first ranks, and gets something here.
    """
    line = ranks.line()
    ahead = _up_to_classes(ranks)[name]
    near = _rows_lead_to([asker for asker in ahead if asker.name in joined], name)
    others = [asker.name for asker in ahead if asker.name not in joined]
    # The eldest one of these: so nobody ahead of it in the other ranks can take what it gets.
    first = [other for other in others if any([linked(line, other, each) for each in near])][0]
    row = shortest_row([line.asker(each) for each in [first, *near]], first, name, line.kinds())
    return (row_stock([line.asker(each) for each in [first, *joined]], row, line.kinds()), first)
