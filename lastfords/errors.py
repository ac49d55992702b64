"""The errors of the package. The values that they keep have tuples for lists."""

from lastfords.plain import frozen


class NoIsland(LookupError):
    """There is no ISLAND of this NAME."""

    def __init__(self, name):
        self.name = name


class NoRule(LookupError):
    """The Talk has no such RULE."""

    def __init__(self, rule):
        self.rule = frozen(rule)


class NoFlood(LookupError):
    """There is no FLOOD of this NAME."""

    def __init__(self, name):
        self.name = name


class NoNumber(LookupError):
    """There is nothing that has this number."""

    def __init__(self, number):
        self.number = number


class NoState(LookupError):
    """A PARTING is no state of the Talk."""


class NoStart(LookupError):
    """No history begins with the PARTINGs up to this place, with it."""

    def __init__(self, place):
        self.place = place


class NoLook(LookupError):
    """No SIGHT answers this LOOK so."""

    def __init__(self, look):
        self.look = frozen(look)


class NoItem(LookupError):
    """There is no ITEM at this place."""

    def __init__(self, place):
        self.place = place


class NothingDone(LookupError):
    """There is nothing to take back."""


class NoTalk(LookupError):
    """The Board has no Talk of this NAME."""

    def __init__(self, name):
        self.name = name


class NoFrame(LookupError):
    """The Talk of this NAME has no frame."""

    def __init__(self, name):
        self.name = name


class BadText(ValueError):
    """Nothing has this text."""


class Twice(ValueError):
    """A NAME is there twice."""

    def __init__(self, name):
        self.name = name


class OtherIslands(ValueError):
    """The ISLANDs are not the same."""


class OtherTalk(ValueError):
    """The ISLANDs, or the NAMEs of the FLOODS, are not the same."""


class Stuck(ValueError):
    """The Talk can not be: these FLOODS get stuck."""

    def __init__(self, lot):
        self.lot = frozen(lot)


class NoOrder(ValueError):
    """The NAMEs are no ORDER of the Talk."""


class Outside(ValueError):
    """The Talk of this NAME is not within its frame."""

    def __init__(self, name):
        self.name = name


class BadLine(ValueError):
    """The line of this number is not written as it must be, or cannot stand there."""

    def __init__(self, number):
        self.number = number


class Stopped(ValueError):
    """An attempt was refused: at which deed, by which error, and what this keeps."""

    def __init__(self, number, raised, value):
        self.number = number
        self.raised = raised
        self.value = frozen(value)
