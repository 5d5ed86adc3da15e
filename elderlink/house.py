"""Askers, lines of them by rank, and stocks of bags."""

from elderlink.checks import are_names, are_unlike, is_count, is_exchange, is_name, is_stock, is_whole
from elderlink.errors import InvalidAsker, InvalidCount, InvalidKind, InvalidLine, InvalidNames, InvalidStock
from elderlink.errors import TakenName, UnknownName


class Asker:
    """An asker: its name, the kinds that fit it, and how many bags it asks for."""

    def __init__(self, name, fits, most):
        if not is_name(name):
            raise InvalidAsker(name)
        if not are_names(fits) or len(fits) == 0:
            raise InvalidAsker(fits)
        if not is_whole(most) or most < 1:
            raise InvalidAsker(most)
        self._name = name
        self._fits = tuple(sorted(fits))
        self._most = most

    @property
    def name(self):
        """The name."""
        return self._name

    @property
    def fits(self):
        """The ascending list of the kinds that fit."""
        return list(self._fits)

    @property
    def most(self):
        """How many bags are asked for."""
        return self._most

    def __eq__(self, other):
        return (
            isinstance(other, Asker) and self._name == other._name
            and self._fits == other._fits and self._most == other._most
        )


class Line:
    """Askers with unlike names, the eldest first."""

    def __init__(self, askers):
        if not _are_askers(askers):
            raise InvalidLine(askers)
        self._askers = tuple(askers)

    def askers(self):
        """The askers by rank."""
        return list(self._askers)

    def names(self):
        """The names of the askers by rank."""
        return [asker.name for asker in self._askers]

    def __len__(self):
        return len(self._askers)

    def __eq__(self, other):
        return isinstance(other, Line) and self._askers == other._askers

    def kinds(self):
        """The ascending list of the kinds that fit some asker."""
        return sorted({kind for asker in self._askers for kind in asker.fits})

    def asker(self, name):
        """The asker with a name."""
        return self._askers[self.place(name)]

    def place(self, name):
        """How many elders the asker with a name has."""
        names = self.names()
        if name not in names:
            raise UnknownName(name)
        return names.index(name)

    def without(self, name):
        """The line of the others."""
        at = self.place(name)
        return Line([*self._askers[:at], *self._askers[at + 1:]])

    def put_in(self, asker, place):
        """The line with one more asker, who has so many elders."""
        need_asker(asker)
        if asker.name in self.names():
            raise TakenName(asker.name)
        if not is_count(place) or place > len(self._askers):
            raise InvalidCount(place)
        return Line([*self._askers[:place], asker, *self._askers[place:]])

    def moved(self, name, place):
        """The line in which the asker with a name has so many elders."""
        # Of the others there is one fewer, so put_in refuses just the places that are not below the number of all.
        return self.without(name).put_in(self.asker(name), place)

    def changed(self, asker):
        """The line with an asker in the place of the one with the same name."""
        need_asker(asker)
        at = self.place(asker.name)
        return Line([*self._askers[:at], asker, *self._askers[at + 1:]])

    def ordered(self, names):
        """The line of the same askers in the order of a list of all their names."""
        if not are_names(names) or sorted(names) != sorted(self.names()):
            raise InvalidNames(names)
        return Line([self.asker(name) for name in names])


def total(stock):
    """How many bags a stock has."""
    need_stock(stock)
    return sum(stock.values())


def held(stock, kinds):
    """How many bags of some kinds a stock has."""
    need_stock(stock)
    if not are_names(kinds):
        raise InvalidNames(kinds)
    return sum([stock.get(kind, 0) for kind in kinds])


def added(one, other):
    """The stock of the bags of two stocks."""
    need_stock(one)
    need_stock(other)
    return without_noughts({kind: one.get(kind, 0) + other.get(kind, 0) for kind in [*one, *other]})


def taken(one, other):
    """The stock one without the bags of the other one."""
    need_stock(one)
    need_stock(other)
    if any([count > one.get(kind, 0) for kind, count in other.items()]):
        raise InvalidStock(other)
    return without_noughts({kind: one[kind] - other.get(kind, 0) for kind in one})


def fitting(line, names):
    """The ascending list of the kinds that fit some of the askers with these names."""
    need_members(line, names)
    return sorted({kind for name in names for kind in line.asker(name).fits})


def wanted(line, names):
    """How many bags the askers with these names ask for in all."""
    need_members(line, names)
    return sum([line.asker(name).most for name in names])


def folded(line, stock):
    """The line and the stock in which kinds that fit the same askers are put together under the least of them."""
    need_line(line)
    need_stock(stock)
    least = _least_alike(line)
    counts = {first: 0 for first in least.values()}
    for kind in least:
        counts[least[kind]] += stock.get(kind, 0)
    return Line([_folded_asker(asker, least) for asker in line.askers()]), without_noughts(counts)


def renamed(thing, names):
    """An asker, a line or a stock with its kinds exchanged for others."""
    if not isinstance(thing, Asker) and not isinstance(thing, Line):
        need_stock(thing)
    _need_exchange(names)
    if isinstance(thing, Asker):
        return _renamed_asker(thing, names)
    if isinstance(thing, Line):
        return Line([_renamed_asker(asker, names) for asker in thing.askers()])
    return without_noughts({names.get(kind, kind): count for kind, count in thing.items()})


def recalled(line, names):
    """The line with the names of its askers exchanged for others."""
    need_line(line)
    _need_exchange(names)
    return Line([Asker(names.get(asker.name, asker.name), asker.fits, asker.most) for asker in line.askers()])


def need_asker(value):
    """Raise InvalidAsker for an object that is no asker."""
    if not isinstance(value, Asker):
        raise InvalidAsker(value)


def need_line(value):
    """Raise InvalidLine for an object that is no line."""
    if not isinstance(value, Line):
        raise InvalidLine(value)


def need_stock(value):
    """Raise InvalidStock for an object that is no stock."""
    if not is_stock(value):
        raise InvalidStock(value)


def need_kind(value):
    """Raise InvalidKind for an object that is no kind."""
    if not is_name(value):
        raise InvalidKind(value)


def need_members(line, names):
    """Raise an error unless these are a line and a list of different names of its askers."""
    need_line(line)
    there = line.names()
    if not are_names(names) or any([name not in there for name in names]):
        raise InvalidNames(names)


def without_noughts(counts):
    """The stock that tells these counts."""
    # Ascending, so that stocks that are equal also look alike, however they came about.
    return {kind: counts[kind] for kind in sorted(counts) if counts[kind] > 0}


def _need_exchange(value):
    if not is_exchange(value):
        raise InvalidNames(value)


def _are_askers(value):
    if not isinstance(value, list) or not all([isinstance(asker, Asker) for asker in value]):
        return False
    return are_unlike([asker.name for asker in value])


def _least_alike(line):
    """For each kind of the line the least kind that fits just the same askers."""
    firsts = {}
    least = {}
    # The kinds come in ascending order, so the first one of those that are alike is the least one.
    for kind in line.kinds():
        who = tuple([asker.name for asker in line.askers() if kind in asker.fits])
        least[kind] = firsts.setdefault(who, kind)
    return least


def _folded_asker(asker, least):
    return Asker(asker.name, sorted({least[kind] for kind in asker.fits}), asker.most)


def _renamed_asker(asker, names):
    return Asker(asker.name, [names.get(kind, kind) for kind in asker.fits], asker.most)
