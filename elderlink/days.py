"""Lines with days: bags that come on a day and keep for some days, dealt foreseen, by days and day by day."""

from elderlink.checks import is_count, is_name
from elderlink.deals import count_of, deal, dealt, poured
from elderlink.errors import InvalidCount, InvalidDayLine, InvalidDays, InvalidKeeps, InvalidSupplies
from elderlink.gains import can_help, help_stock
from elderlink.house import Asker, Line, added, need_line, wanted
from elderlink.orders import alike

_LETTERS = "abcdefghijklmnopqrstuvwxyz"


class DayLine:
    """A line, how many days each kind keeps, and the day of each asker."""

    def __init__(self, line, keeps, days):
        need_line(line)
        if not _are_keeps(line, keeps):
            raise InvalidKeeps(keeps)
        if not _are_days(line, days):
            raise InvalidDays(days)
        self._line = line
        self._keeps = dict(keeps)
        self._days = dict(days)

    def line(self):
        """The line."""
        return self._line

    def keeps(self):
        """How many days each kind keeps."""
        return dict(self._keeps)

    def days(self):
        """The day of each asker."""
        return dict(self._days)

    def __eq__(self, other):
        return (
            isinstance(other, DayLine) and self._line == other._line
            and self._keeps == other._keeps and self._days == other._days
        )


def cells(day_line):
    """The ascending cells that fit some asker."""
    need_day_line(day_line)
    return sorted({cell for asker in day_line.line().askers() for cell in _cells_of(day_line, asker)})


def unrolled(day_line):
    """The line with the names of the cells that fit them in the place of the kinds of the askers."""
    need_day_line(day_line)
    names = _cell_names(day_line)
    askers = []
    for asker in day_line.line().askers():
        askers.append(Asker(asker.name, [names[cell] for cell in _cells_of(day_line, asker)], asker.most))
    return Line(askers)


def day_order(day_line):
    """The line of the askers in the order of their days."""
    need_day_line(day_line)
    return day_line.line().ordered(_names_by_days(day_line))


def foreseen(day_line, supplies):
    """The deal by rank with all supplies known."""
    _need_both(day_line, supplies)
    return deal(unrolled(day_line), _stock_of(day_line, supplies))


def by_days(day_line, supplies):
    """The deal with all supplies known if the order of the days is taken for the rank."""
    _need_both(day_line, supplies)
    turned = unrolled(day_line).ordered(_names_by_days(day_line))
    return _in_line(day_line, dict(deal(turned, _stock_of(day_line, supplies))))


def so_far(day_line, supplies, day):
    """What each asker of the days up to one gets foreseen at least and at most, whatever comes behind that day."""
    _need_both(day_line, supplies)
    if not is_count(day):
        raise InvalidCount(day)
    known = {cell: supplies.get(cell, 0) for cell in cells(day_line) if cell[1] <= day}
    # More bags never lessen what anybody gets, and nobody takes more bags of a cell than all ask for.
    plenty = wanted(day_line.line(), day_line.line().names())
    greatest = dict(foreseen(day_line, {cell: known.get(cell, plenty) for cell in cells(day_line)}))
    days = day_line.days()
    return [(name, least, greatest[name]) for name, least in foreseen(day_line, known) if days[name] <= day]


def alike_days(day_line):
    """Whether the deals foreseen and by days are the same for all supplies."""
    need_day_line(day_line)
    line = unrolled(day_line)
    return alike(line, line.ordered(_names_by_days(day_line)))


def later_matters(day_line):
    """A name and two supplies, alike up to its day, by which it gets unlike counts foreseen, None if there are none."""
    need_day_line(day_line)
    line = unrolled(day_line)
    days = day_line.days()
    for cell, kind in _cell_names(day_line).items():
        for name in can_help(line, kind):
            if days[name] < cell[1]:
                stock = help_stock(line, kind, name)
                supplies = _supplies_of(day_line, stock)
                return (name, supplies, _supplies_of(day_line, added(stock, {kind: 1})))
    return None


def check_later(day_line, value):
    """Whether an object is such a tuple."""
    need_day_line(day_line)
    if not isinstance(value, tuple) or len(value) != 3 or value[0] not in day_line.line().names():
        return False
    name, supplies, more = value
    if not _are_supplies(day_line, supplies) or not _are_supplies(day_line, more):
        return False
    day = day_line.days()[name]
    if any([cell[1] <= day and supplies.get(cell, 0) != more.get(cell, 0) for cell in cells(day_line)]):
        return False
    return dict(foreseen(day_line, supplies))[name] != dict(foreseen(day_line, more))[name]


def handed(day_line, supplies):
    """For each day on which askers have their day the deal of these, and the cells of which bags are used."""
    _need_both(day_line, supplies)
    line = unrolled(day_line)
    days = day_line.days()
    keeps = day_line.keeps()
    names = _cell_names(day_line)
    order = sorted(cells(day_line), key=lambda cell: (cell[1] + keeps[cell[0]], cell[1], cell[0]))
    stock = _stock_of(day_line, supplies)
    found = []
    for day in sorted(set(list(days.values()))):
        askers = [asker for asker in line.askers() if days[asker.name] == day]
        counts = dealt(askers, stock)
        used = _used(askers, counts, [names[cell] for cell in order], stock)
        stock = {kind: count - used[kind] for kind, count in stock.items()}
        found.append((day, counts, [(cell, used[names[cell]]) for cell in order if used[names[cell]] > 0]))
    return found


def handed_deal(day_line, supplies):
    """What each asker gets day by day."""
    return _in_line(day_line, {name: count for _, counts, _ in handed(day_line, supplies) for name, count in counts})


def unused(day_line, supplies):
    """The cells that fit somebody, with those of their bags that are never used day by day."""
    _need_both(day_line, supplies)
    rest = {cell: supplies.get(cell, 0) for cell in cells(day_line)}
    for _, _, used in handed(day_line, supplies):
        for cell, count in used:
            rest[cell] -= count
    return [(cell, count) for cell, count in rest.items() if count > 0]


def foresight(day_line, supplies):
    """How much more all get together foreseen than day by day."""
    _need_both(day_line, supplies)
    ahead = sum([count for _, count in foreseen(day_line, supplies)])
    return ahead - sum([count for _, count in handed_deal(day_line, supplies)])


def need_day_line(value):
    """Raise InvalidDayLine for an object that is no line with days."""
    if not isinstance(value, DayLine):
        raise InvalidDayLine(value)


def _need_both(day_line, supplies):
    need_day_line(day_line)
    if not _are_supplies(day_line, supplies):
        raise InvalidSupplies(supplies)


def _are_keeps(line, value):
    """Whether an object is a dictionary from kinds, among them all of a line, to counts."""
    if not isinstance(value, dict):
        return False
    if not all([is_name(kind) and is_count(count) for kind, count in value.items()]):
        return False
    return all([kind in value for kind in line.kinds()])


def _are_days(line, value):
    """Whether an object is a dictionary from just the names of a line to counts."""
    if not isinstance(value, dict) or len(value) != len(line):
        return False
    return all([name in value and is_count(value[name]) for name in line.names()])


def _are_supplies(day_line, value):
    if not isinstance(value, dict):
        return False
    keeps = day_line.keeps()
    return all([_is_cell(keeps, cell) and is_count(count) for cell, count in value.items()])


def _is_cell(keeps, value):
    if not isinstance(value, tuple) or len(value) != 2:
        return False
    return value[0] in keeps and is_count(value[1])


def _cells_of(day_line, asker):
    """The cells that fit an asker."""
    keeps = day_line.keeps()
    day = day_line.days()[asker.name]
    return [(kind, come) for kind in asker.fits for come in range(max(0, day - keeps[kind]), day + 1)]


def _cell_names(day_line):
    """For each cell that fits some asker, ascending, its name in the unrolled line."""
    # Behind the letters come two letters each, then three, and so on: each name so far, but "", with one more letter.
    names = [""]
    found = {}
    for at, cell in enumerate(cells(day_line)):
        name = names[at // len(_LETTERS)] + _LETTERS[at % len(_LETTERS)]
        names.append(name)
        found[cell] = name
    return found


def _names_by_days(day_line):
    """The names in the order of their days, those of one day in the order of the line."""
    days = day_line.days()
    return sorted(day_line.line().names(), key=lambda name: days[name])


def _stock_of(day_line, supplies):
    """Supplies as a stock for the unrolled line."""
    return {name: supplies.get(cell, 0) for cell, name in _cell_names(day_line).items()}


def _supplies_of(day_line, stock):
    """A stock for the unrolled line as supplies."""
    return {cell: stock[name] for cell, name in _cell_names(day_line).items() if name in stock}


def _in_line(day_line, counts):
    return [(name, counts[name]) for name in day_line.line().names()]


def _used(askers, counts, kinds, stock):
    """How many bags of each kind are used for a deal of some askers, as many as can be of the first kinds."""
    # The kinds take askers here: whoever takes ahead takes most.
    takers = []
    for kind in kinds:
        takers.append((kind, [asker.name for asker in askers if kind in asker.fits], stock[kind]))
    room = poured(takers, dict(counts))
    return {kind: count_of(room, kind) for kind in kinds}
