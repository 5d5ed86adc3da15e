"""Scripts for the tests, drawn anew but always the same ones, and what the tests know of them apart from the program."""

from elderlink.errors import NothingToRedo, NothingToUndo
from elderlink.house import Asker
from elderlink.papers import shortage
from tests.samples import is_asker, is_right_count, is_right_name, is_right_names, repr_of
from tests.ways import parent_of

NAMES = ["ann", "bob", "cat", "m", "c", "x", "zoe"]
JOINING = [Asker("zoe", ["a", "b"], 2), Asker("m", ["c"], 1), Asker("ann", ["ab", "a"], 3), Asker("ida", ["b"], 1)]
FORMS = {"bring": "kc", "lose": "kc", "join": "a@", "leave": "n", "move": "nc", "order": "l", "give": "", "undo": "", "redo": "",
         "deal": "", "stock": "", "short": "n", "try": "s"}


def drawn_script(draw, length, depth=0, words=None):
    """A script of so many commands, of which some are refused."""
    found = []
    for _ in range(length):
        word = draw.choice(words or [*FORMS, "bring", "undo"])
        if word == "try":
            inner = drawn_script(draw, draw.randint(0, 3), depth + 1, words) if depth < 3 else []
            found.append(("try", inner))
        elif word in ("bring", "lose"):
            found.append((word, draw.choice(["a", "b", "c", "z"]), draw.randint(0, 2)))
        elif word == "join":
            found.append((word, draw.choice(JOINING), draw.choice([None, 0, 1, 2, 7])))
        elif word == "move":
            found.append((word, draw.choice(NAMES), draw.randint(0, 3)))
        elif word == "order":
            found.append((word, draw.sample(NAMES[:3], draw.randint(0, 3)) if draw.randint(0, 1) else draw.sample(["c", "m", "x"], 3)))
        elif word in ("leave", "short"):
            found.append((word, draw.choice(NAMES)))
        else:
            found.append((word,))
    return found


def is_right_part(form, value):
    if form == "k" or form == "n":
        return is_right_name(value)
    if form == "c":
        return is_right_count(value)
    if form == "a":
        return is_asker(value)
    if form == "@":
        return value is None or is_right_count(value)
    return is_right_names(value) if form == "l" else is_right_script(value)


def is_right_script(value):
    """[160] by its words."""
    if type(value) is not list:
        return False
    for command in value:
        if type(command) is not tuple or not command or type(command[0]) is not str or command[0] not in FORMS:
            return False
        forms = FORMS[command[0]]
        if len(command) != 1 + len(forms) or not all(is_right_part(*pair) for pair in zip(forms, command[1:])):
            return False
    return True


def refusal(house, command):
    """[161]: the word with which a command is refused, or None, found out without doing it."""
    word, names, stock = command[0], house.line().names(), house.stock()
    if word == "lose" and stock.get(command[1], 0) < command[2]:
        return "NotEnough"
    if word == "join":
        if command[1].name in names:
            return "TakenName"
        return "InvalidCount" if command[2] is not None and command[2] > len(names) else None
    if word in ("leave", "move", "short") and command[1] not in names:
        return "UnknownName"
    if word == "move" and command[2] >= len(names):
        return "InvalidCount"
    if word == "order" and sorted(command[1]) != sorted(names):
        return "InvalidNames"
    if word in ("undo", "redo"):
        try:
            getattr(house.copy(), word)()
        except (NothingToUndo, NothingToRedo) as error:
            return type(error).__name__
    return None


def played_by_hand(house, script):
    """[161]: what is said, each command done by a method of the house."""
    said = []
    for command in script:
        word, parts = command[0], command[1:]
        if refusal(house, command) is not None:
            said.append(("refused", refusal(house, command)))
        elif word == "try":
            inner = house.copy()
            said.append(("tried", played_by_hand(inner, command[1])))
        elif word in ("deal", "stock"):
            said.append((word, getattr(house, word)()))
        elif word == "short":
            said.append(("short", shortage(house.line(), house.stock(), parts[0])))
        elif word in ("undo", "redo"):
            getattr(house, word)()
            said.append(("done",))
        else:
            said.append(("gave" if word == "give" else "turned", getattr(house, word)(*parts)))
    return said


def text_of(asker):
    return f"{asker.name} {asker.most}: {', '.join(asker.fits)}"


def rows_of(script, far=""):
    """[162]: the lines of the text."""
    for command in script:
        word, parts = command[0], command[1:]
        if word == "try":
            yield far + "try"
            yield from rows_of(parts[0], far + "  ")
            yield far + "end"
        elif word == "join":
            yield far + f"join {text_of(parts[0])}" if parts[1] is None else far + f"join {parts[1]} {text_of(parts[0])}"
        else:
            told = parts[0] if word == "order" else [str(part) for part in parts]
            yield far + " ".join([word, *told])


def pairs_text(pairs, empty):
    return ", ".join(f"{name} {count}" for name, count in pairs) or empty


def said_rows_of(said, far=""):
    """[163]: the lines of the text."""
    for word, *parts in said:
        if word == "tried":
            yield far + "tried"
            yield from said_rows_of(parts[0], far + "  ")
        elif word == "turned":
            told = ", ".join(f"{name} {before} to {after}" for name, before, after in parts[0])
            yield far + (f"turned {told}" if told else "nothing turned")
        elif word == "short":
            yield far + ("not short" if parts[0] is None else "short " + " ".join(parts[0]))
        elif word == "stock":
            yield far + "stock " + pairs_text(sorted(parts[0].items()), "none")
        elif word in ("gave", "deal"):
            yield far + word + " " + pairs_text(parts[0], "nobody")
        else:
            yield far + " ".join([word, *parts])


def lost_by(script, kind):
    return sum(command[2] if command[:2] == ("lose", kind) else lost_by(command[1], kind) if command[0] == "try" else 0
               for command in script)


def gives(script):
    return any(command[0] == "give" or command[0] == "try" and gives(command[1]) for command in script)


def deals_of(line):
    """What tells lines of the same askers apart that do not deal alike: who is whose parent."""
    return sorted((asker.name, repr_of(asker), str(parent_of(line, asker.name))) for asker in line.askers())
