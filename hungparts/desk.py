"""A desk with protocols and an open store, at which all changes can be undone."""

from hungparts.commands import carried_out
from hungparts.errors import InvalidCommand, NameTaken, NoStore, NothingToRedo, NothingToUndo, PartsError, TooMany
from hungparts.errors import UnknownEntry
from hungparts.events import Watch
from hungparts.protocols import require_protocol
from hungparts.store import Store
from hungparts.words import require_name

MOST_ENTRIES = 12


class Desk:
    """Up to twelve protocols by names, and at most one open store."""

    def __init__(self):
        # All of these are exchanged, never changed: so what was before can be kept as it is.
        self._entries = {}
        self._watch = None
        self._past = []
        self._future = []

    def put(self, name, protocol):
        """Add a protocol."""
        require_name(name)
        require_protocol(protocol)
        if name in self:
            raise NameTaken(name)
        if len(self) >= MOST_ENTRIES:
            raise TooMany(MOST_ENTRIES)
        self._change({**self._entries, name: protocol}, self._watch)

    def drop(self, name):
        """Remove a protocol."""
        self._require_entry(name)
        self._change({other: self._entries[other] for other in self._entries if other != name}, self._watch)

    def entry(self, name):
        """Return a protocol."""
        self._require_entry(name)
        return self._entries[name]

    def names(self):
        """Return the ascending list of the names of the protocols."""
        return sorted(self._entries)

    def __len__(self):
        return len(self._entries)

    def __contains__(self, x):
        # A list of the names, since not every value can be looked up in a dict.
        return x in list(self._entries)

    def start(self, name, catalog, rows=None):
        """Open a new store of a protocol."""
        store = Store(self.entry(name), catalog, rows)
        self._change(self._entries, Watch(store))

    def begin(self, asked):
        """Begin a session in the open store and return its number."""
        watch = self._watch_copy()
        number = watch.begin(asked)
        self._change(self._entries, watch)
        return number

    def step(self, number):
        """Do the next step of a session in the open store, and return the list of the events at it."""
        watch = self._watch_copy()
        found = watch.step(number)
        self._change(self._entries, watch)
        return found

    def finish(self):
        """Let the sessions go on, always the ready one with the least number, and return the list of the numbers."""
        watch = self._watch_copy()
        numbers = []
        able = watch.ready()
        while able:
            watch.step(able[0])
            numbers.append(able[0])
            able = watch.ready()
        self._change(self._entries, watch)
        return numbers

    def store(self):
        """Return a copy of the open store."""
        return self._watch_copy().watched()

    def events(self):
        """Return the list of the events in the open store since it was opened."""
        return self._watch_copy().events()

    def undo(self):
        """Take back the last change that has not been taken back."""
        if len(self._past) == 0:
            raise NothingToUndo()
        self._future = [*self._future, (self._entries, self._watch)]
        self._entries, self._watch = self._past[-1]
        self._past = self._past[:-1]

    def redo(self):
        """Make the change again that was taken back last."""
        if len(self._future) == 0:
            raise NothingToRedo()
        self._past = [*self._past, (self._entries, self._watch)]
        self._entries, self._watch = self._future[-1]
        self._future = self._future[:-1]

    @property
    def undos(self):
        """The number of the changes that can be taken back."""
        return len(self._past)

    @property
    def redos(self):
        """The number of the changes that can be made again."""
        return len(self._future)

    def trial(self, deed):
        """Call a function with the desk and return what it returns; the desk is as it was before then."""
        entries, watch, past, future = self._entries, self._watch, self._past, self._future
        try:
            return deed(self)
        finally:
            self._entries, self._watch, self._past, self._future = entries, watch, past, future

    def run(self, line):
        """Carry out a command and return its answer."""
        return carried_out(self, line)

    def run_all(self, lines):
        """Carry out a list of commands and return the list of the answers; if one fails, nothing is changed."""
        if not isinstance(lines, list):
            raise InvalidCommand(lines)
        entries, watch, past, future = self._entries, self._watch, self._past, self._future
        try:
            answers = [self.run(line) for line in lines]
        except PartsError:
            self._entries, self._watch, self._past, self._future = entries, watch, past, future
            raise
        return answers

    def _require_entry(self, name):
        """Raise UnknownEntry for any value that is not the name of a protocol."""
        if name not in self:
            raise UnknownEntry(name)

    def _watch_copy(self):
        """Return a copy of the watch over the open store, which may be changed."""
        if self._watch is None:
            raise NoStore()
        return self._watch.copy()

    def _change(self, entries, watch):
        """Make a change: from now on there are these protocols and this watch."""
        self._past = [*self._past, (self._entries, self._watch)]
        self._future = []
        self._entries = entries
        self._watch = watch
