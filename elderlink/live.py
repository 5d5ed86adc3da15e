"""A running house: bags come and go, askers join, leave and move, deals are given out, and all can be taken back."""

from elderlink.checks import is_count
from elderlink.deals import dealt, given_out
from elderlink.errors import InvalidCount, InvalidLog, NotEnough, NothingToRedo, NothingToUndo
from elderlink.house import added, need_kind, need_line, need_stock, taken, without_noughts

_PARTS = {"bring": 2, "lose": 2, "join": 2, "leave": 1, "move": 2, "order": 1, "give": 0}


class House:
    """A house with a line and a stock."""

    def __init__(self, line, stock):
        need_line(line)
        need_stock(stock)
        # What stands in these three is never changed, only exchanged for something new: so that blocks, copies and
        # changes that can be taken back or made again may all hold on to it.
        self._scene = (line, without_noughts(stock), {})
        self._past = []
        self._future = []

    def line(self):
        """The line as it is now."""
        return self._scene[0]

    def stock(self):
        """The stock as it is now."""
        return dict(self._scene[1])

    def deal(self):
        """The deal of the stock to the line as they are now."""
        return dealt(self._scene[0].askers(), self._scene[1])

    def __len__(self):
        return len(self._scene[0])

    def given(self):
        """The ascending names to which bags have been given out, each with their number."""
        return sorted(self._scene[2].items())

    def bring(self, kind, count):
        """Put bags in."""
        _need_bags(kind, count)
        line, stock, given = self._scene
        return self._turned(("bring", kind, count), (line, added(stock, {kind: count}), given))

    def lose(self, kind, count):
        """Take bags out."""
        _need_bags(kind, count)
        line, stock, given = self._scene
        if stock.get(kind, 0) < count:
            raise NotEnough(kind)
        return self._turned(("lose", kind, count), (line, taken(stock, {kind: count}), given))

    def join(self, asker, at=None):
        """Put an asker into the line, with so many elders or at the end."""
        line, stock, given = self._scene
        longer = line.put_in(asker, len(line) if at is None else at)
        return self._turned(("join", asker, at), (longer, stock, given))

    def leave(self, name):
        """Take an asker out of the line."""
        line, stock, given = self._scene
        return self._turned(("leave", name), (line.without(name), stock, given))

    def move(self, name, at):
        """Put an asker where it has so many elders."""
        line, stock, given = self._scene
        return self._turned(("move", name, at), (line.moved(name, at), stock, given))

    def order(self, names):
        """Put the askers into an order."""
        line, stock, given = self._scene
        turned = line.ordered(names)
        return self._turned(("order", list(names)), (turned, stock, given))

    def give(self):
        """Give the deal out."""
        line, stock, given = self._scene
        counts, waiting, rest = given_out(line, stock)
        more = dict(given)
        for name, count in counts:
            if count > 0:
                more[name] = more.get(name, 0) + count
        self._change(("give",), (waiting, rest, more))
        return counts

    def log(self):
        """The changes that are not taken back."""
        return [copied(change) for change, _ in self._past]

    def undo(self):
        """Take the last change back."""
        if len(self._past) == 0:
            raise NothingToUndo()
        change, scene = self._past[-1]
        self._future = [*self._future, (change, self._scene)]
        self._past = self._past[:-1]
        self._scene = scene

    def redo(self):
        """Make the change again that was taken back last."""
        if len(self._future) == 0:
            raise NothingToRedo()
        change, scene = self._future[-1]
        self._past = [*self._past, (change, self._scene)]
        self._future = self._future[:-1]
        self._scene = scene

    def trial(self):
        """A block behind which all is again as at its beginning."""
        return Trial(self)

    def attempt(self, action):
        """What a function of the house returns in such a block."""
        with self.trial() as same:
            return action(same)

    def copy(self):
        """A house of its own that is the same in all."""
        other = House(self._scene[0], {})
        other._scene = self._scene
        other._past = self._past
        other._future = self._future
        return other

    def _change(self, change, scene):
        self._past = [*self._past, (change, self._scene)]
        self._future = []
        self._scene = scene

    def _turned(self, change, scene):
        """Make a change and return the ascending names with unlike counts ahead of it and behind it, and these."""
        before = dict(self.deal())
        self._change(change, scene)
        after = dict(self.deal())
        rows = [(name, before.get(name, 0), after.get(name, 0)) for name in sorted(set([*before, *after]))]
        return [row for row in rows if row[1] != row[2]]


class Trial:
    """A block in which something is tried out with a house."""

    def __init__(self, house):
        self._house = house
        self._scene = None
        self._past = None
        self._future = None

    def __enter__(self):
        self._scene = self._house._scene
        self._past = self._house._past
        self._future = self._house._future
        return self._house

    def __exit__(self, kind, value, trace):
        self._house._scene = self._scene
        self._house._past = self._past
        self._house._future = self._future


def replayed(line, stock, log):
    """The house of a line and a stock in which the changes of a log have been made."""
    house = House(line, stock)
    if not isinstance(log, list) or not all([_is_change(change) for change in log]):
        raise InvalidLog(log)
    for change in log:
        make(house, change)
    return house


def make(house, change):
    """Make a change of a log in a house, and return what the method returns."""
    word = change[0]
    if word == "bring":
        return house.bring(change[1], change[2])
    if word == "lose":
        return house.lose(change[1], change[2])
    if word == "join":
        return house.join(change[1], change[2])
    if word == "leave":
        return house.leave(change[1])
    if word == "move":
        return house.move(change[1], change[2])
    if word == "order":
        return house.order(change[1])
    return house.give()


def copied(change):
    """A change of a log with lists of its own."""
    if change[0] == "order":
        return ("order", list(change[1]))
    return change


def _need_bags(kind, count):
    need_kind(kind)
    if not is_count(count):
        raise InvalidCount(count)


def _is_change(value):
    """Whether an object is a tuple of a word of a log with as many things behind it."""
    if not isinstance(value, tuple) or len(value) == 0 or not isinstance(value[0], str):
        return False
    return value[0] in _PARTS and len(value) == 1 + _PARTS[value[0]]
