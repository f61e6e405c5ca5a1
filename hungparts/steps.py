"""What the steps of sessions do, and for which sessions they wait."""

from hungparts.changes import changed, fits, is_change, roles
from hungparts.words import in_span


def sessions_ahead(stand, number):
    """Return the ascending list of the sessions for which the next step of a session that runs waits."""
    session = stand.sessions[number]
    step = session.next_one()
    found = changes_ahead(stand, session)
    if step[0] in WAITS:
        waits = WAITS[step[0]]
        found = [*found, *waits(stand, session)]
    return sorted(set(found))


def ready_now(stand):
    """Return the ascending list of the sessions that run and whose next step is possible now."""
    running = [session.number for session in stand.sessions if session.runs()]
    return [number for number in running if len(sessions_ahead(stand, number)) == 0]


def changes_ahead(stand, session):
    """Return the changes that have to end before a change does its first step."""
    if session.place > 0 or not is_change(session.wish):
        return []
    return [other.number for other in stand.others(session) if other.place > 0 and is_change(other.wish)]


def lock_waits(stand, session):
    """Return the sessions with locks that clash with the one that the next step takes."""
    mode = session.next_one()[2]
    things = things_to_lock(stand, session)
    return [other.number for other in stand.others(session) if is_against(stand, other, things, mode)]


def is_against(stand, other, things, mode):
    """Tell whether a session has a lock on one of some things that clashes with a mode."""
    strengths = stand.rules.strengths
    return any([thing in things and strengths.clash(held, mode) for thing, held in other.held])


def things_to_lock(stand, session):
    """Return the list of the things that the next step, a lock, takes."""
    word = session.next_one()[1]
    if word in ("old", "new"):
        old, new = roles(session.wish)
        return old if word == "old" else new
    if word == "table":
        return ["table"]
    part = session.part if word == "part" else stand.book.rest
    return [] if part is None else [part]


def key_waits(stand, session):
    """Return the sessions because of which it is open whether the part at hand has the key."""
    if session.part is None:
        return []
    return stand.heap.pending(session.part, session.key(), session.number, stand.settled_now())


def strike_waits(stand, session):
    """Return the sessions because of which it is open which rows of the key can be struck."""
    if session.part is None:
        return []
    return stand.heap.marked(session.part, session.number, stand.settled_now(), session.key())


def move_waits(stand, session):
    """Return the sessions because of which it is open which rows can be moved."""
    # A change that does not fit is refused at once.
    if not fits(stand.book, session.wish):
        return []
    old, _ = roles(session.wish)
    settled = stand.settled_now()
    return [number for part in old for number in stand.heap.marked(part, session.number, settled)]


def wait_waits(stand, session):
    """Return the sessions that have looked at a catalog before the current one."""
    return [other.number for other in stand.others(session) if other.seen is not None and other.seen < stand.age]


# For which sessions each step waits; the other steps wait for none.
WAITS = {
    "lock": lock_waits,
    "key": key_waits,
    "claim": key_waits,
    "strike": strike_waits,
    "move": move_waits,
    "wait": wait_waits,
}


def do_step(stand, number):
    """Do the next step of a session, which waits for no other one, and return what became of the session by it."""
    session = stand.sessions[number].copy()
    stand.sessions[number] = session
    deed = DEEDS[session.next_one()[0]]
    result = deed(stand, session)
    if result == "refused":
        stand.heap.forget(number)
    if result in ("done", "refused"):
        session.end(result)
    if result == "on":
        session.place += 1
    return result


def do_look(stand, session):
    """Take the part that gets the key, and remember the edition."""
    session.part = stand.book.part_of(session.key())
    session.seen = stand.age
    return "on"


def do_lock(stand, session):
    """Take locks."""
    mode = session.next_one()[2]
    taken = [(thing, mode) for thing in things_to_lock(stand, session)]
    session.held = tuple(sorted(set([*session.held, *taken])))
    return "on"


def do_again(stand, session):
    """Begin anew if the catalog has changed since the look."""
    if session.seen == stand.age:
        return "on"
    session.start_anew()
    return "anew"


def do_border(stand, session):
    """Refuse a key that the catalog does not give to the part at hand."""
    strays = session.part in stand.book and stand.book.part_of(session.key()) != session.part
    return "refused" if strays else "on"


def do_key(stand, session):
    """Refuse a key that the part at hand has."""
    return "refused" if stand.rows_of_key(session.part, session.key()) > 0 else "on"


def do_put(stand, session):
    """Put the row into the part at hand."""
    if session.part is None:
        return "refused"
    stand.heap.put(session.part, session.key(), session.number)
    return "on"


def do_claim(stand, session):
    """Put the row into the part at hand unless the part has it."""
    return "refused" if do_key(stand, session) == "refused" else do_put(stand, session)


def do_strike(stand, session):
    """Strike the rows of the key in the part at hand, and tell how many there are."""
    session.answer = 0
    if session.part is not None:
        session.answer = stand.heap.strike(session.part, session.key(), session.number, stand.settled_now())
    return "on"


def do_view(stand, session):
    """Remember how many rows of the key there are now, and where."""
    key = session.key()
    # Sessions that are settled neither put nor strike nor move any more, and what they have struck or moved nobody
    # strikes again. So what the view tells of a part stays the same, and it can be counted now.
    counted = [(part, stand.rows_of_key(part, key)) for part in stand.heap.parts()]
    session.view = tuple([(part, many) for part, many in counted if many > 0])
    session.duty = stand.rows_of_key(stand.book.part_of(key), key)
    return "on"


def do_read(stand, session):
    """Tell how many rows of the key the view has in the part at hand."""
    session.answer = sum([many for part, many in session.view if part == session.part])
    session.view = None
    return "on"


def do_scan(stand, session):
    """Refuse to hang in a part with rows beyond its span, or where the rest part has rows within the span."""
    name, span = session.wish[1:]
    word = session.next_one()[1]
    part = name if word == "new" else stand.book.rest
    keys = [] if part is None else stand.heap.alive(part, stand.settled_now())
    # In the new part, keys beyond the span are bad, and in the rest part those within it.
    bad = [key for key in keys if in_span(span, key) == (word == "rest")]
    return "refused" if len(bad) > 0 else "on"


def do_move(stand, session):
    """Move the rows of the old parts to where the changed catalog gives them."""
    if not fits(stand.book, session.wish):
        return "refused"
    old, new = roles(session.wish)
    settled = stand.settled_now()
    if any([len(stand.heap.alive(part, settled)) > 0 for part in new]):
        return "refused"
    target = changed(stand.book, session.wish)
    for part in old:
        stand.heap.move(part, target, session.number, settled)
    return "on"


def do_switch(stand, session):
    """Exchange the catalog for the changed one."""
    if not fits(stand.book, session.wish):
        return "refused"
    stand.book = changed(stand.book, session.wish)
    stand.age += 1
    session.switched = True
    return "on"


def do_close(stand, session):
    """Switch and end."""
    return "refused" if do_switch(stand, session) == "refused" else "done"


def do_wait(stand, session):
    """Go on: all that this step does is to wait."""
    return "on"


def do_end(stand, session):
    """End."""
    return "done"


# What each step does; it returns what becomes of the session by it.
DEEDS = {
    "look": do_look,
    "lock": do_lock,
    "again": do_again,
    "border": do_border,
    "key": do_key,
    "put": do_put,
    "claim": do_claim,
    "strike": do_strike,
    "view": do_view,
    "read": do_read,
    "scan": do_scan,
    "move": do_move,
    "switch": do_switch,
    "close": do_close,
    "wait": do_wait,
    "end": do_end,
}
