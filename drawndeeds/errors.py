"""The errors that this package raises."""


class DeedError(ValueError):
    """What every error of this package is."""


class BadTree(DeedError):
    """A value is not built as it should be; path leads to its first wrong part."""

    def __init__(self, path):
        self.path = path


class BadText(DeedError):
    """A text is of no form; place is its first wrong place."""

    def __init__(self, place):
        self.place = place


class BadAct(DeedError):
    """An act cannot be done; word tells why."""

    def __init__(self, word):
        self.word = word


class BadAsk(DeedError):
    """A question cannot be answered; word tells why."""

    def __init__(self, word):
        self.word = word


class UnknownName(DeedError):
    """Nothing has this name."""

    def __init__(self, name):
        self.name = name


class NoMember(DeedError):
    """This is no member of the heap."""

    def __init__(self, deed):
        self.deed = deed


class NoLot(DeedError):
    """This is none of the lots that are asked for."""

    def __init__(self, lot):
        self.lot = lot


class NoFace(DeedError):
    """This is not the lot of a face."""

    def __init__(self, lot):
        self.lot = lot


class TooMany(DeedError):
    """There are more than the document lets."""


class UnlikeLetters(DeedError):
    """Two books have not equally many letters."""


class NothingDone(DeedError):
    """There is no act to take back, or to do again."""
