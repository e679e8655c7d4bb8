"""The errors of the package."""


class LoomError(ValueError):
    """What the package refuses."""


class BadText(LoomError):
    """A text, or a part of one, is of no form that is read."""

    def __init__(self, place):
        self.place = place


class BadTree(LoomError):
    """What should be a design is none."""

    def __init__(self, path):
        self.path = tuple(path)


class BadDesign(LoomError):
    """A design has a fault."""

    def __init__(self, word, where, path):
        self.word = word
        self.where = where
        self.path = tuple(path)


class BadRing(LoomError):
    """Things of a design hang on themselves."""

    def __init__(self, names):
        self.names = tuple(names)


class BadFlat(LoomError):
    """What should be a flat design is none."""

    def __init__(self, path):
        self.path = tuple(path)


class BadGraph(LoomError):
    """What should be a graph is none."""

    def __init__(self, path):
        self.path = tuple(path)


class BadNet(LoomError):
    """What should be a table net is none."""

    def __init__(self, path):
        self.path = tuple(path)


class BadFabric(LoomError):
    """What should be a fabric is none."""

    def __init__(self, path):
        self.path = tuple(path)


class BadLaid(LoomError):
    """What should be laid rightly is not."""

    def __init__(self, word, number):
        self.word = word
        self.number = number


class BadBits(LoomError):
    """Bits tell no config."""

    def __init__(self, place):
        self.place = place


class BadClauses(LoomError):
    """What should be clauses are none."""

    def __init__(self, path):
        self.path = tuple(path)


class BadTrace(LoomError):
    """A text is that of no trace."""

    def __init__(self, line):
        self.line = line


class BadConfig(LoomError):
    """What should be a config is none."""

    def __init__(self, path):
        self.path = tuple(path)


class NotStill(LoomError):
    """A config has a ring."""

    def __init__(self, things):
        self.things = things


class NotWhole(LoomError):
    """A bench is not whole."""


class NoMachine(LoomError):
    """No machine runs."""


class NotReady(LoomError):
    """A fault stands at or ahead of what is asked for."""

    def __init__(self, fault):
        self.fault = fault


class NoRoom(LoomError):
    """A fabric has no room."""

    def __init__(self, word):
        self.word = word


class TooGreat(LoomError):
    """A number is above what is told."""


class BadAct(LoomError):
    """An act cannot be done."""

    def __init__(self, word):
        self.word = word


class NothingDone(LoomError):
    """There is no act to take back, or to do again."""


class NameMissing(LookupError):
    """A name is not there."""


class UnknownName(NameMissing):
    """A trace has no such name."""

    def __init__(self, name):
        self.name = name
