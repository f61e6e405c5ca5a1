"""Protocols: strengths of locks, and a program for each of some kinds of sessions."""

from hungparts.errors import InvalidNumber, InvalidProgram, InvalidPrograms, InvalidProtocol, InvalidStrengths
from hungparts.errors import InvalidText, NoProgram, PartsError, UnknownMode
from hungparts.programs import KINDS, is_program, program_text, require_kind
from hungparts.strengths import Strengths, read_strengths, standard
from hungparts.words import is_integer

PLAIN_PROGRAMS = {
    "put": (("look",), ("lock", "table", "write"), ("again",), ("claim",), ("end",)),
    "strike": (("look",), ("lock", "table", "write"), ("again",), ("strike",), ("end",)),
    "read": (("look",), ("lock", "table", "read"), ("again",), ("view",), ("read",), ("end",)),
    "direct": (("lock", "part", "write"), ("border",), ("claim",), ("end",)),
    "hang": (
        ("lock", "table", "alone"), ("lock", "new", "alone"), ("lock", "rest", "alone"),
        ("scan", "new"), ("scan", "rest"), ("close",),
    ),
    "take": (("lock", "table", "alone"), ("close",)),
    "split": (
        ("lock", "table", "alone"), ("lock", "old", "alone"), ("lock", "new", "alone"), ("move",), ("close",),
    ),
    "join": (
        ("lock", "table", "alone"), ("lock", "old", "alone"), ("lock", "new", "alone"), ("move",), ("close",),
    ),
}


class Rulebook:
    """A protocol. It never changes."""

    def __init__(self, strengths, programs):
        require_strengths(strengths)
        require_programs(programs)
        given = [kind for kind in KINDS if kind in programs]
        for kind in given:
            require_program(strengths, kind, programs[kind])
        self._strengths = strengths
        self._programs = {kind: list(programs[kind]) for kind in given}

    @property
    def strengths(self):
        """The strengths of the locks."""
        return self._strengths

    def kinds(self):
        """Return the list of the kinds that have programs."""
        return list(self._programs)

    def program(self, kind):
        """Return the list of the steps of a kind."""
        if kind not in self.kinds():
            raise NoProgram(kind)
        return list(self._programs[kind])

    def with_program(self, kind, program):
        """Return the protocol with another program for a kind, or with one for a kind that had none."""
        require_kind(kind)
        return Rulebook(self._strengths, {**self._programs, kind: program})

    def without_step(self, kind, index):
        """Return the protocol in which the program of a kind lacks a step."""
        steps = self.program(kind)
        if not is_integer(index) or not 0 <= index < len(steps):
            raise InvalidNumber(index)
        return self.with_program(kind, [*steps[:index], *steps[index + 1:]])

    def __eq__(self, other):
        return isinstance(other, Rulebook) and self._strengths == other._strengths and self._programs == other._programs

    def __str__(self):
        lines = [f"{kind}: {program_text(self._programs[kind])}" for kind in self._programs]
        return "\n".join([str(self._strengths), *lines])


def require_strengths(value):
    """Raise InvalidStrengths for any value that is not a Strengths."""
    if not isinstance(value, Strengths):
        raise InvalidStrengths(value)


def require_programs(value):
    """Raise an exception unless a value is a dict whose keys are kinds."""
    if not isinstance(value, dict):
        raise InvalidPrograms(value)
    for kind in value:
        require_kind(kind)


def require_program(strengths, kind, value):
    """Raise an exception unless a value is a program of a kind with modes that the strengths have."""
    if not is_program(value, kind):
        raise InvalidProgram(value)
    for step in value:
        if step[0] == "lock":
            require_mode(strengths, step[2])


def require_mode(strengths, value):
    """Raise UnknownMode for any value that is not a mode of the strengths."""
    if value not in strengths.modes():
        raise UnknownMode(value)


def require_protocol(value):
    """Raise InvalidProtocol for any value that is not a Rulebook."""
    if not isinstance(value, Rulebook):
        raise InvalidProtocol(value)


def weaker_protocol(one, other):
    """Tell whether two protocols differ in the modes of locks alone, and each mode of the first one is weaker than
    or as strong as that of the second one."""
    require_protocol(one)
    require_protocol(other)
    if one.strengths != other.strengths or one.kinds() != other.kinds():
        return False
    return all([weaker_program(one.strengths, one.program(kind), other.program(kind)) for kind in one.kinds()])


def weaker_program(strengths, one, other):
    """Tell of two programs what weaker_protocol tells of two protocols."""
    if len(one) != len(other):
        return False
    return all([weaker_step(strengths, step, there) for step, there in zip(one, other)])


def weaker_step(strengths, one, other):
    """Tell of two steps what weaker_protocol tells of two protocols."""
    if one[0] == "lock" and one[:2] == other[:2]:
        return strengths.weaker(one[2], other[2])
    return one == other


def places(protocol):
    """Return the list of the tuples (kind, index) of all locks."""
    require_protocol(protocol)
    found = []
    for kind in protocol.kinds():
        for index, step in enumerate(protocol.program(kind)):
            if step[0] == "lock":
                found.append((kind, index))
    return found


def is_place(protocol, value):
    """Tell whether any value is the tuple (kind, index) of a lock of a protocol."""
    # Without the look at the index, True would be taken for 1.
    if not isinstance(value, tuple) or len(value) != 2 or not is_integer(value[1]):
        return False
    return value in places(protocol)


def with_mode(protocol, place, mode):
    """Return the protocol in which the lock at a place has another mode."""
    require_protocol(protocol)
    if not is_place(protocol, place):
        raise InvalidNumber(place)
    require_mode(protocol.strengths, mode)
    kind, index = place
    steps = protocol.program(kind)
    steps[index] = (*steps[index][:2], mode)
    return protocol.with_program(kind, steps)


def read_protocol(text):
    """Return the protocol with a text."""
    if not isinstance(text, str):
        raise InvalidText(text)
    try:
        protocol = parsed_protocol(text)
    except PartsError:
        raise InvalidText(text) from None
    # Kinds that come twice or in another order are read as well, but no protocol is written so.
    if str(protocol) != text:
        raise InvalidText(text)
    return protocol


def parsed_protocol(text):
    """Return the protocol that the lines of a text tell, whatever the order of the kinds."""
    first, *lines = text.split("\n")
    programs = {}
    for line in lines:
        kind, _, told = line.partition(": ")
        programs[kind] = [tuple(step.split(" ")) for step in told.split(", ")]
    return Rulebook(read_strengths(first), programs)


def plain_protocol():
    """Return a protocol with a program for each kind, in which changes lock the table alone."""
    return Rulebook(standard(), {kind: list(PLAIN_PROGRAMS[kind]) for kind in PLAIN_PROGRAMS})
