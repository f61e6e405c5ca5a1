"""Steps that a right protocol does not need, and the weakest modes with which it is right."""

from hungparts.choices import kinds_chosen, mode_tuples, require_places, with_modes
from hungparts.errors import InvalidProgram, NotRight
from hungparts.protocols import with_mode
from hungparts.verdicts import is_right, is_right_about, wrong


def require_right(protocol):
    """Raise an exception for any value that is not a Rulebook, and for a protocol that is wrong."""
    if not is_right(protocol):
        raise NotRight()


def needless(protocol):
    """Return the list of the tuples (kind, index) of the steps without each of which alone a protocol is right."""
    require_right(protocol)
    return [(kind, index) for kind, index in all_steps(protocol) if right_without(protocol, kind, index) is not None]


def slim(protocol):
    """Return the protocol that is left if, from the last step to the first one, all needless ones are left out."""
    require_right(protocol)
    left = protocol
    for kind, index in reversed(all_steps(protocol)):
        less = right_without(left, kind, index)
        left = left if less is None else less
    return left


def all_steps(protocol):
    """Return the list of the tuples (kind, index) of all steps of a protocol."""
    return [(kind, index) for kind in protocol.kinds() for index in range(len(protocol.program(kind)))]


def right_without(protocol, kind, index):
    """Return a protocol, which is right, without a step, or None if this is no protocol or wrong."""
    try:
        less = protocol.without_step(kind, index)
    except InvalidProgram:
        return None
    return less if is_right_about(less, [kind]) else None


def fitting_modes(protocol, place):
    """Return the list of the modes with which the lock at a place leaves a protocol right."""
    require_right(protocol)
    variants = [(mode, with_mode(protocol, place, mode)) for mode in protocol.strengths.modes()]
    return [mode for mode, variant in variants if is_right_about(variant, kinds_chosen([place]))]


def weakest(protocol, chosen):
    """Return the list of the weakest tuples of modes with which the locks at some places leave a protocol right."""
    require_right(protocol)
    require_places(protocol, chosen)
    strengths = protocol.strengths
    tuples = mode_tuples(strengths, len(chosen))
    # Stronger modes than those that fit do so, too, and weaker ones than others do not: so a few tuples tell of all.
    fitting, others = [], []
    for modes in tuples:
        known = is_above_one(strengths, modes, fitting) or is_below_one(strengths, modes, others)
        if not known and is_right_about(with_modes(protocol, chosen, modes), kinds_chosen(chosen)):
            fitting.append(modes)
        elif not known:
            others.append(modes)
    return [modes for modes in tuples if is_least(strengths, modes, fitting)]


def are_weaker(strengths, one, other):
    """Tell whether each of some modes is weaker than or as strong as the one at the same place of others."""
    return all([strengths.weaker(here, there) for here, there in zip(one, other)])


def is_above_one(strengths, modes, others):
    """Tell whether, of several tuples of modes, one is weaker than or as strong as another tuple."""
    return any([are_weaker(strengths, other, modes) for other in others])


def is_below_one(strengths, modes, others):
    """Tell whether a tuple of modes is weaker than or as strong as one of several others."""
    return any([are_weaker(strengths, modes, other) for other in others])


def is_least(strengths, modes, fitting):
    """Tell whether a tuple of modes is as strong as one that fits, and no stronger than any other one below it."""
    below = [other for other in fitting if are_weaker(strengths, other, modes)]
    return len(below) > 0 and all([are_weaker(strengths, modes, other) for other in below])


def too_weak(protocol, place, mode):
    """Return None if a protocol is right with a mode at a place, and otherwise what goes wrong with it."""
    require_right(protocol)
    return wrong(with_mode(protocol, place, mode))
