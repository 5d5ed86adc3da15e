"""The errors of elderlink: all of them are an ElderError, none is a kind of another one."""


class ElderError(ValueError):
    """What all errors of this package are."""


class InvalidAsker(ElderError):
    """No asker, or something of which no asker can be made."""

    def __init__(self, value=None):
        self.value = value


class InvalidLine(ElderError):
    """No line, or something of which no line can be made."""

    def __init__(self, value=None):
        self.value = value


class InvalidStock(ElderError):
    """No stock, or not such a one as is asked for."""

    def __init__(self, value=None):
        self.value = value


class InvalidKind(ElderError):
    """No kind."""

    def __init__(self, value=None):
        self.value = value


class InvalidNames(ElderError):
    """No list of names, or no dictionary of them, as it is asked for."""

    def __init__(self, value=None):
        self.value = value


class InvalidCount(ElderError):
    """No count, or one out of its bounds."""

    def __init__(self, value=None):
        self.value = value


class InvalidDeal(ElderError):
    """No deal, as it is asked for."""

    def __init__(self, value=None):
        self.value = value


class InvalidTold(ElderError):
    """No book of told deals."""

    def __init__(self, value=None):
        self.value = value


class InvalidRanks(ElderError):
    """No ranks, or something of which no ranks can be made."""

    def __init__(self, value=None):
        self.value = value


class InvalidShares(ElderError):
    """No list of shares for the ranks."""

    def __init__(self, value=None):
        self.value = value


class InvalidKeeps(ElderError):
    """No dictionary of how long the kinds of a line keep."""

    def __init__(self, value=None):
        self.value = value


class InvalidDays(ElderError):
    """No dictionary of the days of the askers of a line."""

    def __init__(self, value=None):
        self.value = value


class InvalidDayLine(ElderError):
    """No line with days."""

    def __init__(self, value=None):
        self.value = value


class InvalidSupplies(ElderError):
    """No supplies."""

    def __init__(self, value=None):
        self.value = value


class InvalidWorths(ElderError):
    """No worths of a line."""

    def __init__(self, value=None):
        self.value = value


class InvalidNumbers(ElderError):
    """No list of whole numbers, one for each asker."""

    def __init__(self, value=None):
        self.value = value


class InvalidScript(ElderError):
    """No script, or not such a one as is asked for."""

    def __init__(self, value=None):
        self.value = value


class InvalidLog(ElderError):
    """No log of a house."""

    def __init__(self, value=None):
        self.value = value


class InvalidText(ElderError):
    """No text of the kind that is asked for."""

    def __init__(self, value=None):
        self.value = value


class UnknownName(ElderError):
    """A name of none of those that are spoken of."""

    def __init__(self, value=None):
        self.value = value


class TakenName(ElderError):
    """A name that is there already."""

    def __init__(self, value=None):
        self.value = value


class Unlike(ElderError):
    """A line, or ranks, with other askers than the first one has."""

    def __init__(self, value=None):
        self.value = value


class NotEnough(ElderError):
    """A kind of which there are too few bags."""

    def __init__(self, value=None):
        self.value = value


class NothingToUndo(ElderError):
    """No change is left to take back."""


class NothingToRedo(ElderError):
    """No change is left to make again."""
