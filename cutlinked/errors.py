"""The errors of the package (DOC.md 0.3): each names one way in which an argument is wrong.

Each class has an __init__ of its own, so that it is made with just its fields.
"""


class ForestError(ValueError):
    """What every error of this package is."""


class BadForest(ForestError):
    """The parents or the worths of a forest are none: part tells which."""

    def __init__(self, part):
        self.part = part


class NoHouse(ForestError):
    """Not a house of the forest."""

    def __init__(self):
        pass


class NoDeed(ForestError):
    """Not a deed, or one that can't be done."""

    def __init__(self):
        pass


class BadDeeds(ForestError):
    """The deed of this index can't be done then; -1 for no list or tuple."""

    def __init__(self, index):
        self.index = index


class NoNumber(ForestError):
    """Not a number of the kind that is asked for."""

    def __init__(self):
        pass


class NoAsk(ForestError):
    """Not an ask."""

    def __init__(self):
        pass


class NoShape(ForestError):
    """Not a shape."""

    def __init__(self):
        pass


class NoTurn(ForestError):
    """A top can't be turned up."""

    def __init__(self):
        pass


class BadAccount(ForestError):
    """The event of this index is none; -1 for no tuple of so many."""

    def __init__(self, index):
        self.index = index


class NoMoment(ForestError):
    """Not a moment of the account, the history or the film."""

    def __init__(self):
        pass


class NoWeight(ForestError):
    """Not the weight of a tie."""

    def __init__(self):
        pass


class Full(ForestError):
    """No tie more can come."""

    def __init__(self):
        pass


class BadHistory(ForestError):
    """The deed of this index is none, or can't be; -1 for no tuple of so many."""

    def __init__(self, index):
        self.index = index


class NoParcel(ForestError):
    """Not a parcel."""

    def __init__(self):
        pass


class NoRow(ForestError):
    """Not a byte row."""

    def __init__(self):
        pass


class BadRow(ForestError):
    """At this place of a byte row stands what is none."""

    def __init__(self, place):
        self.place = place


class NoCut(ForestError):
    """Not what a cut can let be of the blocks that wait."""

    def __init__(self):
        pass


class NoBlocks(ForestError):
    """Not a list or tuple of byte rows."""

    def __init__(self):
        pass


class NoDisk(ForestError):
    """Not a disk that will do."""

    def __init__(self):
        pass


class OtherForest(ForestError):
    """The disk keeps another forest."""

    def __init__(self):
        pass


class NoThing(ForestError):
    """Not a thing that can be written."""

    def __init__(self):
        pass


class BadThing(ForestError):
    """The text is wrong from this place on; -1 for no string."""

    def __init__(self, place):
        self.place = place


class BadText(ForestError):
    """The line of this number has not the form due there; 0 for no string."""

    def __init__(self, line):
        self.line = line


class NothingDone(ForestError):
    """Nothing is there to be taken back."""

    def __init__(self):
        pass


class NoLine(ForestError):
    """Not a line that the desk knows."""

    def __init__(self):
        pass


class NoName(ForestError):
    """Nothing of its sort is kept under this name."""

    def __init__(self, name):
        self.name = name
