"""Scripts for houses: played, written as texts and read, and which of them come to the same end."""

from elderlink.checks import are_names, is_count, is_name
from elderlink.errors import InvalidCount, InvalidNames, InvalidScript, InvalidText, NotEnough, NothingToRedo
from elderlink.errors import NothingToUndo, TakenName, UnknownName, Unlike
from elderlink.house import Asker, need_line, without_noughts
from elderlink.live import House, copied, make
from elderlink.orders import alike
from elderlink.papers import shortage
from elderlink.texts import asker_text, deal_text, numeral, numeral_count, read_asker, stock_text

_ALONE = ("give", "undo", "redo", "deal", "stock")
_BAGS = ("bring", "lose")
_NAMED = ("leave", "short")


def play(house, script):
    """Do the commands of a script on a house, and return what is said."""
    _need_script(script)
    return _played(house, script)


def script_text(script):
    """The text of a script."""
    _need_script(script)
    return "\n".join(_script_rows(script))


def read_script(text):
    """The script that has this very text."""
    if not isinstance(text, str):
        raise InvalidText(text)
    script = _script_of([] if text == "" else text.split("\n"))
    # The rows are not read sign by sign: so only a text is right that is written just so again.
    if not _is_script(script) or "\n".join(_script_rows(script)) != text:
        raise InvalidText(text)
    return script


def said_text(said):
    """The text of what was said."""
    return "\n".join(_said_rows(said))


def same_end(line, one, other):
    """Whether two scripts come to the same end on a line."""
    return parting_stock(line, one, other) is None


def parting_stock(line, one, other):
    """A stock with which two scripts come to unlike ends on a line, with as few bags as any; None without one."""
    need_line(line)
    _need_plain(one)
    _need_plain(other)
    for stock in _telling_stocks(one, other):
        if not _ends_alike(_end(line, stock, one), _end(line, stock, other)):
            return stock
    return None


def trimmed(line, script):
    """The script without the commands, from the last one on, without which it comes to the same end."""
    need_line(line)
    _need_plain(script)
    kept = list(script)
    for at in range(len(script) - 1, -1, -1):
        shorter = [*kept[:at], *kept[at + 1:]]
        if same_end(line, script, shorter):
            kept = shorter
    # A try changes nothing, so none of them is left.
    return [copied(command) for command in kept]


def _need_script(value):
    if not _is_script(value):
        raise InvalidScript(value)


def _need_plain(value):
    """Raise InvalidScript unless an object is a script without a giving out."""
    if not _is_script(value) or _gives(value):
        raise InvalidScript(value)


def _is_script(value):
    return isinstance(value, list) and all([_is_command(command) for command in value])


def _is_command(value):
    if not isinstance(value, tuple) or not 1 <= len(value) <= 3:
        return False
    word = value[0]
    if len(value) == 1:
        return word in _ALONE
    if len(value) == 2:
        if word in _NAMED:
            return is_name(value[1])
        return (word == "order" and are_names(value[1])) or (word == "try" and _is_script(value[1]))
    if word == "join":
        return isinstance(value[1], Asker) and (value[2] is None or is_count(value[2]))
    return (word in _BAGS or word == "move") and is_name(value[1]) and is_count(value[2])


def _gives(script):
    """Whether a script gives out, perhaps within a try."""
    return any([command[0] == "give" or (command[0] == "try" and _gives(command[1])) for command in script])


def _played(house, script):
    return [_answer(house, command) for command in script]


def _answer(house, command):
    """What is said to a command, done on a house."""
    try:
        return _done(house, command)
    except InvalidCount:
        return ("refused", "InvalidCount")
    except InvalidNames:
        return ("refused", "InvalidNames")
    except NotEnough:
        return ("refused", "NotEnough")
    except NothingToRedo:
        return ("refused", "NothingToRedo")
    except NothingToUndo:
        return ("refused", "NothingToUndo")
    except TakenName:
        return ("refused", "TakenName")
    except UnknownName:
        return ("refused", "UnknownName")


def _done(house, command):
    """What is said to a command that raises no error."""
    word = command[0]
    if word == "deal":
        return ("deal", house.deal())
    if word == "stock":
        return ("stock", house.stock())
    if word == "short":
        return ("short", shortage(house.line(), house.stock(), command[1]))
    if word == "try":
        with house.trial():
            return ("tried", _played(house, command[1]))
    if word == "undo":
        house.undo()
        return ("done",)
    if word == "redo":
        house.redo()
        return ("done",)
    return ("gave" if word == "give" else "turned", make(house, command))


def _script_rows(script):
    return [row for command in script for row in _command_rows(command)]


def _command_rows(command):
    """The lines of the text of a command."""
    word = command[0]
    if word == "try":
        return ["try", *_further_in(_script_rows(command[1])), "end"]
    if word == "join":
        place = [] if command[2] is None else [numeral(command[2])]
        return [" ".join(["join", *place, asker_text(command[1])])]
    if word == "order":
        return [" ".join(["order", *command[1]])]
    if word in _BAGS or word == "move":
        return [f"{word} {command[1]} {numeral(command[2])}"]
    return [" ".join(command)]


def _further_in(rows):
    return [f"  {row}" for row in rows]


def _script_of(rows):
    """What the rows tell as a script; a try without an end is passed over."""
    script = []
    inner = None
    for row in rows:
        if inner is None and row == "try":
            inner = []
        elif inner is None:
            script.append(_command_of(row))
        elif row == "end":
            script.append(("try", _script_of(inner)))
            inner = None
        else:
            inner.append(row[2:])
    return script


def _command_of(row):
    """What a row tells as a command, in one line."""
    word, _, rest = row.partition(" ")
    parts = rest.split(" ")
    if word == "order":
        return ("order", [] if rest == "" else parts)
    if word == "join":
        return _join_of(rest)
    if word in _BAGS or word == "move":
        return (word, parts[0], numeral_count(parts[-1]))
    if word in _NAMED:
        return (word, rest)
    return (word,)


def _join_of(rest):
    """What the rest of a row tells as a join, None if it is none."""
    first, _, text = rest.partition(" ")
    at = numeral_count(first)
    try:
        return ("join", read_asker(rest if at is None else text), at)
    except InvalidText:
        return None


def _said_rows(said):
    return [row for item in said for row in _item_rows(item)]


def _item_rows(item):
    """The lines of the text of one thing said."""
    word = item[0]
    if word == "tried":
        return ["tried", *_further_in(_said_rows(item[1]))]
    if word == "turned":
        rows = ", ".join([f"{name} {numeral(before)} to {numeral(after)}" for name, before, after in item[1]])
        return ["nothing turned" if rows == "" else f"turned {rows}"]
    if word == "short":
        return ["not short" if item[1] is None else " ".join(["short", *item[1]])]
    if word == "gave" or word == "deal":
        return [f"{word} {deal_text(item[1])}"]
    if word == "stock":
        return [f"stock {stock_text(item[1])}"]
    return [" ".join(item)]


def _lost(script):
    """How many bags of each kind the commands of a script take out, those within tries, too."""
    counts = {}
    for command in script:
        if command[0] == "lose":
            counts[command[1]] = counts.get(command[1], 0) + command[2]
        if command[0] == "try":
            for kind, count in _lost(command[1]).items():
                counts[kind] = counts.get(kind, 0) + count
    return counts


def _telling_stocks(one, other):
    """The stocks, fewest bags first, one of which parts two scripts if any does."""
    # More bags of a kind than either script takes out are never missed: to the scripts one is as good as another.
    less = _lost(one)
    more = _lost(other)
    rows = [[]]
    for kind in sorted(set([*less, *more])):
        most = max(less.get(kind, 0), more.get(kind, 0))
        rows = [[*row, (kind, count)] for row in rows for count in range(most + 1)]
    rows = sorted(rows, key=lambda pairs: sum([count for _, count in pairs]))
    return [without_noughts(dict(row)) for row in rows]


def _end(line, stock, script):
    """The house in which a script was played."""
    house = House(line, stock)
    _played(house, script)
    return house


def _ends_alike(one, other):
    """Whether two houses have equal stocks, and lines of the same askers that deal alike."""
    if one.stock() != other.stock():
        return False
    try:
        return alike(one.line(), other.line())
    except Unlike:
        return False
