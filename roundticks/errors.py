"""The errors that the functions of this package raise."""


class TickError(ValueError):
    """What a call refuses."""


class NoWay(TickError):
    """There is no such walk, number or version."""


class Unlike(TickError):
    """Two things that must be alike are not."""


class TooGreat(TickError):
    """A flat network has too many points."""


class NothingDone(TickError):
    """There is no act to take back."""


class BadNetwork(TickError):
    """What is told is no network; path tells the first wrong part."""

    def __init__(self, path):
        self.path = tuple(path)


class BadLead(TickError):
    """What is told is no lead; path tells the first wrong part."""

    def __init__(self, path):
        self.path = tuple(path)


class BadTable(TickError):
    """What is told is no table; path tells the first wrong part."""

    def __init__(self, path):
        self.path = tuple(path)


class BadProgram(TickError):
    """What is told is no program; path tells the first wrong part."""

    def __init__(self, path):
        self.path = tuple(path)


class Gain(TickError):
    """There is no timetable, as ring gains."""

    def __init__(self, ring):
        self.ring = ring


class BadText(TickError):
    """A text is none of its form; place is its first wrong place."""

    def __init__(self, place):
        self.place = place


class BadAct(TickError):
    """An act cannot be done; word tells why."""

    def __init__(self, word):
        self.word = word


class Conflict(TickError):
    """Another session changed the module called name."""

    def __init__(self, name):
        self.name = name


class NameMissing(LookupError):
    """A name is asked for that is not there."""


class UnknownName(NameMissing):
    """Nothing is called name."""

    def __init__(self, name):
        self.name = name
