"""The exceptions of the package. Each one stands directly under PartsError."""


class PartsError(ValueError):
    """Whatever the package raises of its own."""


class InvalidName(PartsError):
    """A value that has to be a name is none."""

    def __init__(self, value):
        self.value = value


class InvalidKey(PartsError):
    """A value that has to be a key is no integer."""

    def __init__(self, value):
        self.value = value


class InvalidSpan(PartsError):
    """A value that has to be a span is none."""

    def __init__(self, value):
        self.value = value


class InvalidSpans(PartsError):
    """The spans of a catalog are no dict."""

    def __init__(self, value):
        self.value = value


class InvalidCatalog(PartsError):
    """A value that has to be a catalog is none."""

    def __init__(self, value):
        self.value = value


class InvalidChange(PartsError):
    """A value that has to be a change, or a list of changes, is none."""

    def __init__(self, value):
        self.value = value


class InvalidModes(PartsError):
    """The modes of strengths are no list of one to eight."""

    def __init__(self, value):
        self.value = value


class InvalidClash(PartsError):
    """A clash is no tuple of two items."""

    def __init__(self, value):
        self.value = value


class InvalidStrengths(PartsError):
    """A value that has to be strengths, or the clashes of them, is none."""

    def __init__(self, value):
        self.value = value


class InvalidProgram(PartsError):
    """A value that has to be a program of a kind is none."""

    def __init__(self, value):
        self.value = value


class InvalidPrograms(PartsError):
    """The programs of a protocol are no dict."""

    def __init__(self, value):
        self.value = value


class InvalidProtocol(PartsError):
    """A value that has to be a protocol, or a list of protocols, is none."""

    def __init__(self, value):
        self.value = value


class InvalidRows(PartsError):
    """A value that has to be the rows of parts is none."""

    def __init__(self, value):
        self.value = value


class InvalidSession(PartsError):
    """A value that has to be a session, or a list of sessions, is none."""

    def __init__(self, value):
        self.value = value


class InvalidNumber(PartsError):
    """A value is none of the numbers, indexes or places that are possible."""

    def __init__(self, value):
        self.value = value


class InvalidWeaving(PartsError):
    """A value that has to be a weaving is none."""

    def __init__(self, value):
        self.value = value


class InvalidStore(PartsError):
    """A value that has to be a store is none."""

    def __init__(self, value):
        self.value = value


class InvalidScene(PartsError):
    """A value that has to be a scene or a case is none."""

    def __init__(self, value):
        self.value = value


class InvalidLog(PartsError):
    """A value that has to be a list of logs is none."""

    def __init__(self, value):
        self.value = value


class InvalidText(PartsError):
    """A value is not the text that it has to be."""

    def __init__(self, value):
        self.value = value


class InvalidCommand(PartsError):
    """A value that has to be a command, or a list of commands, is none."""

    def __init__(self, value):
        self.value = value


class Duplicate(PartsError):
    """A name comes twice."""

    def __init__(self, name):
        self.name = name


class UnknownPart(PartsError):
    """A value is not a part."""

    def __init__(self, name):
        self.name = name


class UnknownMode(PartsError):
    """A value is not a mode."""

    def __init__(self, name):
        self.name = name


class UnknownEntry(PartsError):
    """A value is not the name of a protocol of the desk."""

    def __init__(self, name):
        self.name = name


class NameTaken(PartsError):
    """Something else has this name already."""

    def __init__(self, name):
        self.name = name


class Overlap(PartsError):
    """A span meets the span of the part with this name."""

    def __init__(self, name):
        self.name = name


class NotInside(PartsError):
    """A key does not lie inside the span that is split at it."""

    def __init__(self, at):
        self.at = at


class NotNeighbours(PartsError):
    """The part with this name does not begin where the other one ends."""

    def __init__(self, name):
        self.name = name


class NoProgram(PartsError):
    """A value is not a kind, or not one that has a program."""

    def __init__(self, kind):
        self.kind = kind


class TooMany(PartsError):
    """There would be more than this bound."""

    def __init__(self, bound):
        self.bound = bound


class Ended(PartsError):
    """The session with this number does not run any more."""

    def __init__(self, number):
        self.number = number


class Waiting(PartsError):
    """The session with this number waits for other ones."""

    def __init__(self, number):
        self.number = number


class NothingBad(PartsError):
    """A weaving has no event."""


class NotRight(PartsError):
    """A protocol is wrong."""


class NoStore(PartsError):
    """No store is open."""


class NothingToUndo(PartsError):
    """There is no change that can be taken back."""


class NothingToRedo(PartsError):
    """There is no change that can be made again."""
