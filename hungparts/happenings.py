"""What goes wrong at the steps of sessions."""

from hungparts.changes import roles
from hungparts.steps import do_step

# Rows that are alive in the parts of the catalog come and go at these steps alone.
SETTLING = ("switch", "close", "end")


def wrong_now(stand):
    """Return the list of (kind, key) for the rows that are outside or twice now."""
    settled = stand.settled_now()
    found = [(part, key) for part in stand.book.names() for key in stand.heap.alive(part, settled)]
    outside = [key for part, key in found if stand.book.part_of(key) != part]
    keys = sorted([key for _, key in found])
    twice = [key for key, after in zip(keys, keys[1:]) if key == after]
    return [*[("outside", key) for key in sorted(set(outside))], *[("twice", key) for key in sorted(set(twice))]]


def watched_step(stand, number):
    """Do the next step of a session, which waits for no other one, and return the list of the events at it."""
    word = stand.sessions[number].next_one()[0]
    before = wrong_now(stand) if word in SETTLING else []
    result = do_step(stand, number)
    session = stand.sessions[number]
    after = wrong_now(stand) if word in SETTLING else []
    found = [wrong for wrong in after if wrong not in before]
    if word in ("switch", "close") and session.switched:
        found.extend([("lost", key) for key in left_behind(stand, session)])
    if session.wish[0] == "put" and result == "done" and is_elsewhere(stand, session):
        found.append(("missed", session.key()))
    if word == "strike" and is_elsewhere(stand, session):
        found.append(("astray", session.key()))
    if word == "read" and session.answer != session.duty:
        found.append(("unseen", session.key()))
    return [(kind, key, number) for kind, key in found]


def left_behind(stand, session):
    """Return the ascending list of the keys that are alive in the old parts of a split or join that has switched."""
    if session.wish[0] not in ("split", "join"):
        return []
    old, _ = roles(session.wish)
    settled = stand.settled_now()
    return sorted(set([key for part in old for key in stand.heap.alive(part, settled)]))


def is_elsewhere(stand, session):
    """Tell whether the part at hand of a session is not the one that gets its key."""
    return stand.book.part_of(session.key()) != session.part
