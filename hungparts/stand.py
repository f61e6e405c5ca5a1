"""How a store stands: its sessions and how far they have come, its catalog and its rows."""


class Session:
    """How far a session has come with its steps. Stores that are copies share it, so that a step changes a copy."""

    def __init__(self, number, wish, program):
        self.number = number
        self.wish = wish
        self.program_steps = program
        # The index of the next step, or None if the session does not run any more.
        self.place = 0
        self.ending = "running"
        # The part at hand.
        self.part = wish[1] if wish[0] == "direct" else None
        # The edition of the catalog that the session remembers.
        self.seen = None
        # What a read would tell of each part in which its view has rows of its key.
        self.view = None
        self.answer = None
        self.duty = None
        self.held = ()
        self.switched = False

    def copy(self):
        """Return another session that has come as far and goes on independently."""
        other = Session(self.number, self.wish, self.program_steps)
        other.place = self.place
        other.ending = self.ending
        other.part = self.part
        other.seen = self.seen
        other.view = self.view
        other.answer = self.answer
        other.duty = self.duty
        other.held = self.held
        other.switched = self.switched
        return other

    def runs(self):
        """Tell whether the session has not ended."""
        return self.place is not None

    def next_one(self):
        """Return the next step of a session that runs."""
        return self.program_steps[self.place]

    def is_settled(self):
        """Tell whether the session is done, or has switched."""
        return self.switched or self.ending == "done"

    def key(self):
        """Return the key of a session that is no change."""
        return self.wish[-1]

    def start_anew(self):
        """Give up all that the session has come to, and go back to the first step."""
        self.place = 0
        self.part = None
        self.seen = None
        self.view = None
        self.duty = None
        self.held = ()

    def end(self, ending):
        """End the session, which gives back its locks and remembers nothing any more."""
        self.place = None
        self.ending = ending
        self.seen = None
        self.held = ()

    def state(self, edition):
        """Return a tuple of all that matters of the session where the catalog has an edition."""
        # How old the remembered edition is does not matter, but only whether it is still the current one.
        fresh = None if self.seen is None else int(self.seen == edition)
        return (self.wish, self.ending, self.place, self.part, fresh, self.view, self.answer, self.duty, self.held)


class Stand:
    """How a store stands."""

    def __init__(self, rules, book, heap):
        self.rules = rules
        self.book = book
        self.age = 0
        self.heap = heap
        self.sessions = []

    def copy(self):
        """Return another stand that is the same and goes on independently."""
        other = Stand(self.rules, self.book, self.heap.copy())
        other.age = self.age
        other.sessions = list(self.sessions)
        return other

    def state(self):
        """Return a tuple that tells all that matters of how the store stands."""
        # The stretches tell the span of each part but the rest part.
        book = (self.book.rest, *self.book.stretches())
        return (self.age, book, self.heap.listed(), tuple([session.state(self.age) for session in self.sessions]))

    def settled_now(self):
        """Return the ascending list of the sessions that are settled."""
        return [session.number for session in self.sessions if session.is_settled()]

    def others(self, session):
        """Return the list of all other sessions that run."""
        return [other for other in self.sessions if other.runs() and other.number != session.number]

    def rows_of_key(self, part, key):
        """Return the number of the rows of a key in a part that are alive now; a part None has none."""
        return 0 if part is None else self.heap.count(part, key, self.settled_now())
