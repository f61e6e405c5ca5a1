"""Places of locks that are chosen, and modes for all of them at once."""

from hungparts.errors import InvalidNumber
from hungparts.protocols import is_place, with_mode

MOST_PLACES = 3


def require_places(protocol, value):
    """Raise InvalidNumber for any value that is not a list of one to three different places of a protocol."""
    if not isinstance(value, list) or not 1 <= len(value) <= MOST_PLACES:
        raise InvalidNumber(value)
    if not all([is_place(protocol, place) for place in value]) or len(set(value)) < len(value):
        raise InvalidNumber(value)


def mode_tuples(strengths, many):
    """Return the list of all tuples of so many modes, in ascending order of the places of the modes."""
    found = [()]
    for _ in range(many):
        found = [(*modes, mode) for modes in found for mode in strengths.modes()]
    return found


def with_modes(protocol, chosen, modes):
    """Return the protocol in which the locks at some places have other modes."""
    behind = protocol
    for place, mode in zip(chosen, modes):
        behind = with_mode(behind, place, mode)
    return behind


def kinds_chosen(chosen):
    """Return the list of the kinds of some places."""
    return [kind for kind, _ in chosen]
