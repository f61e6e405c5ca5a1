"""Strengths of locks: their modes, and which of these clash."""

from hungparts.errors import Duplicate, InvalidClash, InvalidModes, InvalidStrengths, InvalidText, PartsError
from hungparts.errors import UnknownMode
from hungparts.words import require_name

MOST_MODES = 8


class Strengths:
    """One to eight modes, and which of them clash. They never change."""

    def __init__(self, modes, clashes):
        require_modes(modes)
        require_clashes(clashes, modes)
        self._modes = list(modes)
        self._against = {mode: clashing_modes(mode, modes, clashes) for mode in modes}

    def modes(self):
        """Return the list of the modes, in their order."""
        return list(self._modes)

    def __len__(self):
        return len(self._modes)

    def clash(self, one, other):
        """Tell whether two modes clash."""
        self._require_mode(one)
        self._require_mode(other)
        return other in self._against[one]

    def weaker(self, one, other):
        """Tell whether each mode that clashes with the one clashes with the other, too."""
        self._require_mode(one)
        self._require_mode(other)
        return all([mode in self._against[other] for mode in self._against[one]])

    def clashes(self):
        """Return the list of all tuples of two modes that clash, each once, in the order of the modes."""
        found = []
        for at, one in enumerate(self._modes):
            for other in self._modes[at:]:
                if other in self._against[one]:
                    found.append((one, other))
        return found

    def __eq__(self, other):
        return isinstance(other, Strengths) and self._modes == other._modes and self._against == other._against

    def weakest(self):
        """Return the list of the modes, in their order, below which there is no other mode."""
        return [mode for mode in self._modes if not any([self._below(other, mode) for other in self._modes])]

    def strongest(self):
        """Return the list of the modes, in their order, above which there is no other mode."""
        return [mode for mode in self._modes if not any([self._below(mode, other) for other in self._modes])]

    def steps_down(self, mode):
        """Return the list of the modes, in their order, that are below a mode with no other one between."""
        self._require_mode(mode)
        lower = [other for other in self._modes if self._below(other, mode)]
        return [one for one in lower if not any([self._below(one, other) for other in lower])]

    def __str__(self):
        pairs = [f"{one}!{other}" for one, other in self.clashes()]
        return ": ".join([" ".join(words) for words in (self._modes, pairs) if len(words) > 0])

    def _require_mode(self, value):
        """Raise UnknownMode for any value that is not a mode."""
        if value not in self._modes:
            raise UnknownMode(value)

    def _below(self, one, other):
        """Tell whether a mode is weaker than another one and not as strong."""
        return self.weaker(one, other) and not self.weaker(other, one)


def require_modes(modes):
    """Raise an exception unless a value is a list of one to eight different names."""
    if not isinstance(modes, list):
        raise InvalidModes(modes)
    for at, name in enumerate(modes):
        require_name(name)
        if name in modes[:at]:
            raise Duplicate(name)
    if not 1 <= len(modes) <= MOST_MODES:
        raise InvalidModes(modes)


def require_clashes(clashes, modes):
    """Raise an exception unless a value is a list of tuples of two modes."""
    if not isinstance(clashes, list):
        raise InvalidStrengths(clashes)
    for item in clashes:
        if not isinstance(item, tuple) or len(item) != 2:
            raise InvalidClash(item)
        for name in item:
            if name not in modes:
                raise UnknownMode(name)


def clashing_modes(mode, modes, clashes):
    """Return the list of the modes, in their order, that clash with a mode."""
    return [other for other in modes if (mode, other) in clashes or (other, mode) in clashes]


def standard():
    """Return strengths with the modes read, write, share and alone."""
    clashes = [("read", "alone"), ("write", "share"), ("write", "alone"), ("share", "alone"), ("alone", "alone")]
    return Strengths(["read", "write", "share", "alone"], clashes)


def read_strengths(text):
    """Return the strengths with a text."""
    if not isinstance(text, str):
        raise InvalidText(text)
    try:
        strengths = parsed_strengths(text)
    except PartsError:
        raise InvalidText(text) from None
    # Clashes that come twice or in another order are read as well, but no strengths are written so.
    if str(strengths) != text:
        raise InvalidText(text)
    return strengths


def parsed_strengths(text):
    """Return the strengths that the words of a text tell, whatever the order of the clashes."""
    modes, _, told = text.partition(": ")
    pairs = [] if told == "" else told.split(" ")
    return Strengths(modes.split(" "), [tuple(pair.split("!")) for pair in pairs])
