"""Stores: they carry out the sessions of a protocol step by step, in any order."""

from hungparts.changes import require_catalog
from hungparts.errors import Ended, InvalidNumber, InvalidRows, InvalidSession, Waiting
from hungparts.protocols import require_protocol
from hungparts.sessions import is_session
from hungparts.stand import Session, Stand
from hungparts.steps import do_step, sessions_ahead
from hungparts.versions import Heap, is_rows
from hungparts.words import is_integer


class Store:
    """A table, and the sessions that go on with it."""

    def __init__(self, protocol, catalog, rows=None):
        require_protocol(protocol)
        require_catalog(catalog)
        if not are_rows_beside(rows, catalog):
            raise InvalidRows(rows)
        # What looks through many orders of turns goes on with this alone.
        self.stand = Stand(protocol, catalog, Heap(rows))

    @property
    def protocol(self):
        """The protocol."""
        return self.stand.rules

    @property
    def catalog(self):
        """The current catalog."""
        return self.stand.book

    @property
    def edition(self):
        """The number of times that the catalog has changed."""
        return self.stand.age

    def __len__(self):
        return len(self.stand.sessions)

    def parts(self):
        """Return the ascending list of the parts that have versions."""
        return self.stand.heap.parts()

    def alive(self, part):
        """Return the ascending list of the keys of a part that are alive now."""
        return self.stand.heap.alive(part, self.stand.settled_now())

    def versions(self, part):
        """Return the list of the versions of a part, in the order in which they came."""
        return self.stand.heap.versions(part)

    def begin(self, asked):
        """Begin a session and return its number."""
        if not is_session(asked):
            raise InvalidSession(asked)
        program = self.stand.rules.program(asked[0])
        number = len(self.stand.sessions)
        self.stand.sessions.append(Session(number, asked, program))
        return number

    def asked(self, number):
        """Return the tuple of a session."""
        return self._session(number).wish

    def outcome(self, number):
        """Return whether a session is running, done or refused."""
        return self._session(number).ending

    def next_step(self, number):
        """Return the next step of a session, or None if it does not run any more."""
        session = self._session(number)
        return session.next_one() if session.runs() else None

    def at_hand(self, number):
        """Return the part at hand of a session, or None."""
        return self._session(number).part

    def told(self, number):
        """Return what the read or strike step of a session has told, or None."""
        return self._session(number).answer

    def due(self, number):
        """Return what a read should tell, or None."""
        return self._session(number).duty

    def locks(self, number):
        """Return the ascending list of the locks (thing, mode) of a session."""
        return list(self._session(number).held)

    def running(self):
        """Return the ascending list of the sessions that run."""
        return [session.number for session in self.stand.sessions if session.runs()]

    def settled(self):
        """Return the ascending list of the sessions that are settled."""
        return self.stand.settled_now()

    def holders(self, thing):
        """Return the ascending list of the tuples (number, mode) of the locks on a thing."""
        found = []
        for session in self.stand.sessions:
            found.extend([(session.number, mode) for held, mode in session.held if held == thing])
        return found

    def waits_for(self, number):
        """Return the ascending list of the sessions for which the next step of a session waits."""
        if not self._session(number).runs():
            raise Ended(number)
        return sessions_ahead(self.stand, number)

    def can(self, number):
        """Tell whether a session runs and its next step is possible now."""
        return self._session(number).runs() and len(sessions_ahead(self.stand, number)) == 0

    def step(self, number):
        """Do the next step of a session, and return what became of the session by it."""
        if len(self.waits_for(number)) > 0:
            raise Waiting(number)
        return do_step(self.stand, number)

    def copy(self):
        """Return another store that is the same and goes on independently."""
        other = Store(self.protocol, self.catalog)
        other.stand = self.stand.copy()
        return other

    def state(self):
        """Return a tuple that is the same for stores of equal protocols only if they go on in the same way."""
        return self.stand.state()

    def _session(self, number):
        """Return the session with a number, and raise InvalidNumber if there is none."""
        if not is_integer(number) or not 0 <= number < len(self.stand.sessions):
            raise InvalidNumber(number)
        return self.stand.sessions[number]


def are_rows_beside(value, catalog):
    """Tell whether any value can be the rows of a store with a catalog."""
    if not is_rows(value):
        return False
    parts = [] if value is None else [part for part in value if part in catalog]
    return all([catalog.part_of(key) == part for part in parts for key in value[part]])
