"""The errors that the package raises, each with the field that it is made with, if any."""


class RoadError(ValueError):
    """What all errors of the package are."""


class BadWeb(RoadError):
    """There is no web of these; part tells what is wrong with them."""

    def __init__(self, part):
        self.part = part


# Errors without a field have an __init__, too: without one, Python's own
# would take whatever is passed.
class NoHouse(RoadError):
    """This is no house of the web."""

    def __init__(self):
        pass


class NoTie(RoadError):
    """There is no tie between these two houses."""

    def __init__(self):
        pass


class NoTree(RoadError):
    """This is no tree of the web."""

    def __init__(self):
        pass


class NotAsleep(RoadError):
    """This is no state of a house that is asleep."""

    def __init__(self):
        pass


class NoWord(RoadError):
    """This is no word that the house can hear then."""

    def __init__(self):
        pass


class NoGlass(RoadError):
    """This is no glass of the web."""

    def __init__(self):
        pass


class NoMove(RoadError):
    """This is no move that can be made then."""

    def __init__(self):
        pass


class NoChoices(RoadError):
    """These are no choices; index tells the first that is none."""

    def __init__(self, index):
        self.index = index


class NoValues(RoadError):
    """These are no values, one for each house."""

    def __init__(self):
        pass


class Wanted(RoadError):
    """This house wanted to know ahead."""

    def __init__(self):
        pass


class NoWay(RoadError):
    """No word is on its way between these two houses."""

    def __init__(self):
        pass


class BadRecord(RoadError):
    """There is no record of these events; index tells the first that is none."""

    def __init__(self, index):
        self.index = index


class NoMoment(RoadError):
    """There is no such moment."""

    def __init__(self):
        pass


class NoNumber(RoadError):
    """This is no number that may stand here."""

    def __init__(self):
        pass


class NoState(RoadError):
    """This is no state of an end of a link."""

    def __init__(self):
        pass


class NoParcel(RoadError):
    """This is no parcel."""

    def __init__(self):
        pass


class NoRow(RoadError):
    """This is no row of bytes."""

    def __init__(self):
        pass


class BadRow(RoadError):
    """This row is that of no parcel; place tells where it goes wrong."""

    def __init__(self, place):
        self.place = place


class NoCut(RoadError):
    """The blocks that wait can't be cut like this."""

    def __init__(self):
        pass


class NoBlocks(RoadError):
    """These are no blocks."""

    def __init__(self):
        pass


class NoDeed(RoadError):
    """This is no deed that can be done then."""

    def __init__(self):
        pass


class NoPast(RoadError):
    """This is no past of the house."""

    def __init__(self):
        pass


class NoDisk(RoadError):
    """This is no disk that may stand here."""

    def __init__(self):
        pass


class OtherHouse(RoadError):
    """This disk is that of another house."""

    def __init__(self):
        pass


class BadDeeds(RoadError):
    """These are no deeds; index tells the first that can't be done."""

    def __init__(self, index):
        self.index = index


class BadText(RoadError):
    """This text can't be read; line tells the first that is wrong."""

    def __init__(self, line):
        self.line = line


class BadMoves(RoadError):
    """These are no moves; index tells the first that can't be made."""

    def __init__(self, index):
        self.index = index


class NoLine(RoadError):
    """This is no line that the desk knows."""

    def __init__(self):
        pass


class NoName(RoadError):
    """Nothing is kept under this name."""

    def __init__(self, name):
        self.name = name
