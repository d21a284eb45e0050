"""The errors of the package.

Each class keeps what it is created with under the names of its parameters; a path is kept as a tuple.
"""


class TieError(ValueError):
    """What was passed is not what it should be."""


class UnlikeMaps(TieError):
    """Two things that should have equal maps do not."""


class UnlikeParties(TieError):
    """Two things that should have equal parties do not."""


class TooGreat(TieError):
    """There are more than can be told, or fewer than a number asks for."""


class NothingDone(TieError):
    """There is no act to undo or to redo."""


class BadMap(TieError):
    """What should be a map has a wrong part at a path."""

    def __init__(self, path):
        self.path = tuple(path)


class BadParty(TieError):
    """What should be a party has a wrong part at a path."""

    def __init__(self, path):
        self.path = tuple(path)


class BadStand(TieError):
    """What should be a stand has a wrong part at a path."""

    def __init__(self, path):
        self.path = tuple(path)


class BadLists(TieError):
    """What should be lists of posts has a wrong part at a path."""

    def __init__(self, path):
        self.path = tuple(path)


class BadRoads(TieError):
    """What should be roads has a wrong part at a path."""

    def __init__(self, path):
        self.path = tuple(path)


class BadMade(TieError):
    """What a map should be made of has a wrong part at a path."""

    def __init__(self, path):
        self.path = tuple(path)


class NotGood(TieError):
    """A map is not good, as it has a long ring."""

    def __init__(self, ring):
        self.ring = ring


class NoRoad(TieError):
    """A thing has no road from its post to its goal."""

    def __init__(self, thing):
        self.thing = thing


class BadStep(TieError):
    """The step with a number cannot be done."""

    def __init__(self, number):
        self.number = number


class BadOrder(TieError):
    """An order of steps cannot go on at a number."""

    def __init__(self, number):
        self.number = number


class BadText(TieError):
    """A text has its first wrong place."""

    def __init__(self, place):
        self.place = place


class BadAct(TieError):
    """A value is no act, for the reason that a word tells."""

    def __init__(self, word):
        self.word = word


class NameMissing(LookupError):
    """Something was asked for that is not there."""


class UnknownName(NameMissing):
    """A value is not the name of anything here."""

    def __init__(self, name):
        self.name = name
