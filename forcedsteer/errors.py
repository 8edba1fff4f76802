"""The errors of the package.

Each class sets its own attribute, instead of sharing a class that does so:
the document allows no class of the package above it but its base class.
"""


class WrongValue(ValueError):
    """A value is not of the kind or the form that is asked for."""


class WrongName(LookupError):
    """Nothing stands under a name."""


class NoAnswer(ArithmeticError):
    """The arguments are right, but there is no answer."""


class InvalidText(WrongValue):
    """A value is not the text that is asked for."""

    def __init__(self, given):
        self.given = given


class InvalidNumber(WrongValue):
    """A value is not an integer within the bounds."""

    def __init__(self, given):
        self.given = given


class InvalidName(WrongValue):
    """A value is no name, or not one for which this can be done."""

    def __init__(self, given):
        self.given = given


class InvalidWish(WrongValue):
    """A value is no wish."""

    def __init__(self, given):
        self.given = given


class InvalidIndex(WrongValue):
    """A value is no index of what is there."""

    def __init__(self, given):
        self.given = given


class InvalidTie(WrongValue):
    """A tie cannot be made, or is not there to be cut."""

    def __init__(self, given):
        self.given = given


class NotWorks(WrongValue):
    """A value is no Works."""

    def __init__(self, given):
        self.given = given


class InvalidParts(WrongValue):
    """A value is no parts of works; index tells the first wrong element."""

    def __init__(self, index):
        self.index = index


class InvalidTies(WrongValue):
    """A value is no ties of the parts; index tells the first wrong element."""

    def __init__(self, index):
        self.index = index


class InvalidLeaders(WrongValue):
    """A value is no leaders of the works; index tells the first wrong element."""

    def __init__(self, index):
        self.index = index


class InvalidStrengths(WrongValue):
    """A value is no strengths of the works; index tells the first wrong row."""

    def __init__(self, index):
        self.index = index


class InvalidState(WrongValue):
    """A value is no state of the works; index tells the first wrong element."""

    def __init__(self, index):
        self.index = index


class InvalidPushes(WrongValue):
    """A value is no push, or no pushes; index tells the first wrong element."""

    def __init__(self, index):
        self.index = index


class InvalidLot(WrongValue):
    """A value is no lot of parts; index tells the first wrong element."""

    def __init__(self, index):
        self.index = index


class InvalidOffers(WrongValue):
    """A value is no offers for the works; index tells the first wrong element."""

    def __init__(self, index):
        self.index = index


class InvalidDoubts(WrongValue):
    """A value is no doubts about the works; index tells the first wrong element."""

    def __init__(self, index):
        self.index = index


class InvalidSeen(WrongValue):
    """A value is no days that were seen; index tells the first wrong element."""

    def __init__(self, index):
        self.index = index


class UnknownName(WrongName):
    """A value is not one of the names that are there."""

    def __init__(self, given):
        self.given = given


class NoWay(NoAnswer):
    """No pushes lead from the one state to the other one."""


class TooMany(NoAnswer):
    """There is more than can be dealt with."""

    def __init__(self, given):
        self.given = given


class NothingToUndo(NoAnswer):
    """There is no change that can be taken back."""


class Broken(NoAnswer):
    """A wish would not hold; index tells the first such wish."""

    def __init__(self, index):
        self.index = index
