"""Texts of askers, lines, stocks and deals, and what has a text."""

from elderlink.checks import are_names, are_pairs, are_unlike, is_name
from elderlink.errors import InvalidDeal, InvalidText
from elderlink.house import Asker, Line, need_asker, need_line, need_stock

_WIDTH = 18
_BASE = 1000000000000000000


def asker_text(asker):
    """The text of an asker."""
    need_asker(asker)
    fits = ", ".join(asker.fits)
    return f"{asker.name} {numeral(asker.most)}: {fits}"


def line_text(line):
    """The text of a line."""
    need_line(line)
    return "\n".join([asker_text(asker) for asker in line.askers()])


def stock_text(stock):
    """The text of a stock."""
    need_stock(stock)
    return _pairs_text([(kind, stock[kind]) for kind in sorted(stock) if stock[kind] > 0], "none")


def deal_text(deal):
    """The text of a list of tuples of a name and a count."""
    if not are_pairs(deal):
        raise InvalidDeal(deal)
    return _pairs_text(deal, "nobody")


def read_asker(text):
    """The asker that has this very text."""
    asker = _asker_of(text)
    if asker is None:
        raise InvalidText(text)
    return asker


def read_line(text):
    """The line that has this very text."""
    askers = _askers_of(text)
    if askers is None or not are_unlike([asker.name for asker in askers]):
        raise InvalidText(text)
    return Line(askers)


def read_stock(text):
    """The stock, without counts of 0, that has this very text."""
    pairs = _pairs_of(text, "none")
    if pairs is None or not _are_of_stock(pairs):
        raise InvalidText(text)
    return dict(pairs)


def read_deal(text):
    """The list of tuples of a name and a count that has this very text."""
    pairs = _pairs_of(text, "nobody")
    if not are_pairs(pairs):
        raise InvalidText(text)
    return pairs


def numeral(number):
    """The decimal digits of a count."""
    # Python itself refuses to write or to read some thousand digits at once, so it is given few at a time.
    parts = []
    while number >= _BASE:
        parts.append(str(number % _BASE).zfill(_WIDTH))
        number = number // _BASE
    parts.append(str(number))
    return "".join(reversed(parts))


def numeral_count(text):
    """The count that has just these decimal digits, None if there is none."""
    if text == "" or not all(["0" <= sign <= "9" for sign in text]):
        return None
    if text[0] == "0" and text != "0":
        return None
    padded = "0" * (-len(text) % _WIDTH) + text
    number = 0
    for at in range(0, len(padded), _WIDTH):
        number = number * _BASE + int(padded[at:at + _WIDTH])
    return number


def _pairs_text(pairs, empty):
    if len(pairs) == 0:
        return empty
    return ", ".join([f"{name} {numeral(count)}" for name, count in pairs])


def _pairs_of(text, empty):
    """The tuples of names and counts that a text tells, None if it tells something else."""
    if not isinstance(text, str):
        return None
    if text == empty:
        return []
    pairs = [_pair_of(part) for part in text.split(", ")]
    if None in pairs:
        return None
    return pairs


def _pair_of(text):
    name, _, digits = text.partition(" ")
    count = numeral_count(digits)
    if not is_name(name) or count is None:
        return None
    return (name, count)


def _are_of_stock(pairs):
    kinds = [kind for kind, _ in pairs]
    return kinds == sorted(set(kinds)) and all([count > 0 for _, count in pairs])


def _asker_of(text):
    """The asker that has a text, None if there is none."""
    if not isinstance(text, str):
        return None
    head, _, tail = text.partition(": ")
    pair = _pair_of(head)
    fits = tail.split(", ")
    if pair is None or pair[1] == 0 or not are_names(fits) or fits != sorted(fits):
        return None
    return Asker(pair[0], fits, pair[1])


def _askers_of(text):
    """The askers whose texts are the lines of a text, None if one of them is none."""
    if not isinstance(text, str):
        return None
    if text == "":
        return []
    askers = [_asker_of(row) for row in text.split("\n")]
    if any([asker is None for asker in askers]):
        return None
    return askers
