"""Watches over stores: they tell at each step what goes wrong."""

from hungparts.errors import InvalidSession, Waiting
from hungparts.happenings import watched_step, wrong_now
from hungparts.search import explored
from hungparts.weavings import ready, require_store, require_turns


class Watch:
    """A copy of a store, and the events that have occurred in it."""

    def __init__(self, store):
        require_store(store)
        self._store = store.copy()
        self._found = []

    def watched(self):
        """Return another copy of the watched store as it is now."""
        return self._store.copy()

    def begin(self, asked):
        """Begin a session and return its number."""
        return self._store.begin(asked)

    def step(self, number):
        """Do the next step of a session, and return the list of the events (kind, key, number) at it."""
        if len(self._store.waits_for(number)) > 0:
            raise Waiting(number)
        found = watched_step(self._store.stand, number)
        self._found.extend(found)
        return found

    def events(self):
        """Return the list of all events so far."""
        return list(self._found)

    def ready(self):
        """Return the ascending list of the sessions that run and whose next step is possible now."""
        return ready(self._store)

    def copy(self):
        """Return another watch that is the same and goes on independently."""
        other = Watch(self._store)
        other._found = list(self._found)
        return other

    def state(self):
        """Return a tuple that is the same for watches of equal protocols only if they go on in the same way."""
        # What is outside or twice now, and so is no event any more, can be told from the state of the store.
        return self._store.state()


def events(store, weaving):
    """Return the list of the events (index, kind, key, number) of a weaving, with the indexes of the turns."""
    require_store(store)
    require_turns(weaving)
    watch = Watch(store)
    found = []
    for index, turn in enumerate(weaving):
        found.extend([(index, *event) for event in watched_turn(watch, turn)])
    return found


def watched_turn(watch, turn):
    """Make a turn in a watch, and return the list of the events at it."""
    if not isinstance(turn, tuple):
        return watch.step(turn)
    watch.begin(turn)
    return []


def now_wrong(store):
    """Return the list of (kind, key) for the rows that are outside or twice in a store now."""
    require_store(store)
    return wrong_now(store.stand)


def first_wrong(store, sessions):
    """Begin sessions in a copy of a store, and return the first of the shortest lists of turns behind that whose last
    step has an event, or None."""
    require_store(store)
    if not isinstance(sessions, list):
        raise InvalidSession(sessions)
    start = store.copy()
    for asked in sessions:
        start.begin(asked)
    turns, _ = explored(start.stand)
    return turns
