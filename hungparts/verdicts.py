"""Right and wrong protocols, and what shows that they are."""

from hungparts.errors import NoProgram, NotRight
from hungparts.programs import KINDS
from hungparts.protocols import Rulebook, require_protocol
from hungparts.scenes import closed, is_closed, is_scene, shortest
from hungparts.scening import scenes
from hungparts.store import Store


def is_right(protocol):
    """Tell whether nothing can go wrong with a protocol."""
    require_protocol(protocol)
    return is_right_about(protocol, protocol.kinds())


def is_right_about(protocol, kinds):
    """Tell whether nothing can go wrong with a protocol where a session of one of some kinds takes part."""
    for scene in scenes(protocol):
        takes_part = any([kind in kinds for kind in kinds_of(scene)])
        if takes_part and shortest(protocol, scene) is not None:
            return False
    return True


def kinds_of(scene):
    """Return the list of the kinds of the sessions of a scene, each once, in their order."""
    given = [asked[0] for asked in scene[2]]
    return [kind for kind in KINDS if kind in given]


def wrong(protocol):
    """Return a store and a weaving of at most two sessions whose last turn has events, or None."""
    require_protocol(protocol)
    for scene in scenes(protocol):
        turns = shortest(protocol, scene)
        if turns is not None:
            book, rows, sessions = scene
            return Store(protocol, book, rows), [*sessions, *turns]
    return None


def paper(protocol):
    """Return a list of all scenes of a protocol that is right, each with a closed table."""
    require_protocol(protocol)
    entries = []
    for scene in scenes(protocol):
        table = closed(protocol, scene)
        if table is None:
            raise NotRight()
        entries.append((scene, table))
    return entries


def is_paper(protocol, value):
    """Tell whether any value is a paper of a protocol."""
    require_protocol(protocol)
    if not isinstance(value, list) or not all([is_pair(item) for item in value]):
        return False
    told = [scene for scene, _ in value]
    if not all([scene in told for scene in scenes(protocol)]):
        return False
    return all([is_entry(protocol, scene, table) for scene, table in value])


def is_pair(value):
    """Tell whether any value is a tuple of two items."""
    return isinstance(value, tuple) and len(value) == 2


def is_entry(protocol, scene, table):
    """Tell whether any two values are a scene that a protocol can have and a closed table of it."""
    if not is_scene(scene) or not all([kind in protocol.kinds() for kind in kinds_of(scene)]):
        return False
    return is_closed(protocol, scene, table)


def only(protocol, kinds):
    """Return the protocol that has the programs of some kinds alone."""
    require_protocol(protocol)
    if not isinstance(kinds, list):
        raise NoProgram(kinds)
    return Rulebook(protocol.strengths, {kind: protocol.program(kind) for kind in kinds})


def least_wrong(protocol):
    """Return the list of the lists of kinds with which alone a protocol is wrong, but not with fewer of them."""
    require_protocol(protocol)
    bad = [kinds_of(scene) for scene in scenes(protocol) if shortest(protocol, scene) is not None]
    alone = [kind for kind in KINDS if [kind] in bad]
    others = [kind for kind in KINDS if kind not in alone]
    pairs = [[one, two] for one in others for two in others if [one, two] in bad]
    return [*[[kind] for kind in alone], *pairs]
