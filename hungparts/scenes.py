"""Scenes: one or two sessions from a small store, and whether they can go wrong."""

from hungparts.catalogs import Catalog
from hungparts.changes import is_change
from hungparts.errors import InvalidScene, PartsError
from hungparts.events import events
from hungparts.happenings import watched_step
from hungparts.protocols import require_protocol
from hungparts.search import explored
from hungparts.sessions import is_session
from hungparts.steps import ready_now
from hungparts.store import Store, are_rows_beside
from hungparts.words import is_integer

MOST_ROWS = 2
MOST_SESSIONS = 2


def is_beginning(value, most):
    """Tell whether any value is a tuple of a catalog, of rows beside it, and of a list of one to so many sessions."""
    if not isinstance(value, tuple) or len(value) != 3:
        return False
    book, rows, sessions = value
    if not isinstance(book, Catalog) or not isinstance(rows, dict) or not are_rows_beside(rows, book):
        return False
    if not isinstance(sessions, list) or not 1 <= len(sessions) <= most:
        return False
    return all([is_session(asked) for asked in sessions])


def is_scene(value):
    """Tell whether any value is a scene."""
    if not is_beginning(value, MOST_SESSIONS):
        return False
    _, rows, sessions = value
    keys = [key for part in rows for key in rows[part]]
    others = [asked[-1] for asked in sessions if not is_change(asked)]
    return len(keys) <= MOST_ROWS and len(sessions) - len(others) <= 1 and len(set([*keys, *others])) <= 1


def require_scene(value):
    """Raise InvalidScene for any value that is not a scene."""
    if not is_scene(value):
        raise InvalidScene(value)


def begun(protocol, beginning):
    """Return a store in which all sessions of a scene, or of the like, have begun."""
    book, rows, sessions = beginning
    store = Store(protocol, book, rows)
    for asked in sessions:
        store.begin(asked)
    return store


def opened(protocol, scene):
    """Return the store of a scene in which its sessions have begun."""
    require_protocol(protocol)
    require_scene(scene)
    return begun(protocol, scene)


def shortest(protocol, scene):
    """Return a row of turns, as short as possible, whose last step has an event, or None."""
    turns, _ = explored(opened(protocol, scene).stand)
    return turns


def is_row(value):
    """Tell whether any value is a list of integers."""
    return isinstance(value, list) and all([is_integer(number) for number in value])


def is_wrong_row(protocol, scene, turns):
    """Tell whether any value is a row of turns that can be made and has an event."""
    start = opened(protocol, scene)
    if not is_row(turns):
        return False
    try:
        found = events(start, turns)
    except PartsError:
        return False
    return len(found) > 0


def closed(protocol, scene):
    """Return a closed table of a scene, or None."""
    turns, rows = explored(opened(protocol, scene).stand)
    return rows if turns is None else None


def is_closed(protocol, scene, table):
    """Tell whether any value is a closed table of a scene."""
    start = opened(protocol, scene)
    if not isinstance(table, list) or [] not in table or not all([is_row(row) for row in table]):
        return False
    # Rows begin in the same ways, so what is behind each beginning is kept.
    made = {(): start.stand}
    stands = [stand_behind(made, row) for row in table]
    if None in stands:
        return False
    states = {stand.state(): True for stand in stands}
    return all([stays_among(stand, states) for stand in stands])


def stand_behind(made, row):
    """Return how the store stands behind a row of turns, or None if it cannot be made or has an event."""
    here = made[()]
    for at, number in enumerate(row):
        turns = tuple(row[:at + 1])
        if turns not in made:
            made[turns] = stand_after(here, number)
        here = made[turns]
        if here is None:
            return None
    return here


def stand_after(stand, number):
    """Return how the store stands behind one turn more, or None if it cannot be made or has an event."""
    if number not in ready_now(stand):
        return None
    behind = stand.copy()
    return None if watched_step(behind, number) else behind


def stays_among(stand, states):
    """Tell whether each turn more can be made without an event and leads to one of some states."""
    further = [stand_after(stand, number) for number in ready_now(stand)]
    return all([behind is not None and behind.state() in states for behind in further])
