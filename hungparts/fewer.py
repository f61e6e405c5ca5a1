"""Two sessions decide: weavings that go wrong are struck down to at most two of their sessions."""

from itertools import combinations

from hungparts.changes import is_change, roles
from hungparts.errors import InvalidNumber, NothingBad, PartsError
from hungparts.events import events
from hungparts.store import Store
from hungparts.weavings import last_attempts, made_turn
from hungparts.words import is_integer

MOST_ROWS = 2
MOST_SESSIONS = 2


def kept(store, weaving, numbers):
    """Return the last attempts of some sessions of a weaving alone."""
    return chosen_turns(last_attempts(store, weaving), numbers)


def chosen_turns(turns, numbers):
    """Return the turns of some sessions of a weaving, and raise InvalidNumber if these are none of its sessions."""
    if not is_choice(numbers, len(sessions_of(turns))):
        raise InvalidNumber(numbers)
    return turns_of(turns, numbers)


def is_choice(value, many):
    """Tell whether any value is an ascending list of some of the numbers from 0 to one less than many."""
    if not isinstance(value, list) or not all([is_integer(number) for number in value]):
        return False
    return value == [number for number in range(many) if number in value]


def sessions_of(turns):
    """Return the list of the sessions that begin in a weaving."""
    return [turn for turn in turns if isinstance(turn, tuple)]


def turns_of(turns, numbers):
    """Return the turns of some sessions of a weaving, which are numbered anew."""
    found = []
    begun = 0
    for turn in turns:
        number = turn
        if isinstance(turn, tuple):
            number = begun
            begun += 1
        if number in numbers:
            found.append(turn if isinstance(turn, tuple) else numbers.index(number))
    return found


def is_small(store, weaving):
    """Tell whether any values are a store with at most two rows and a weaving of at most two sessions with an event."""
    if not isinstance(store, Store) or len(store) > 0 or not has_few_rows(store):
        return False
    try:
        found = events(store, weaving)
    except PartsError:
        return False
    sessions = sessions_of(weaving)
    changes = [asked for asked in sessions if is_change(asked)]
    return len(found) > 0 and len(sessions) <= MOST_SESSIONS and len(changes) <= 1


def has_few_rows(store):
    """Tell whether a store without sessions has at most two rows, and these the same key."""
    keys = [key for part in store.parts() for key in store.alive(part)]
    return len(keys) <= MOST_ROWS and len(set(keys)) <= 1


def struck_down(store, weaving):
    """Return a store and a weaving for which is_small holds, the last attempts of one or two sessions of a weaving."""
    turns = last_attempts(store, weaving)
    key = first_key(store, weaving)
    books = books_behind(store, weaving)
    # By [101], one of these goes wrong.
    for numbers in small_choices(sessions_of(turns), key):
        few = turns_of(turns, numbers)
        for start in small_starts(store.protocol, books, key, sessions_of(few)):
            if is_small(start, few):
                return start, few


def first_key(store, weaving):
    """Return the key of the first event of a weaving."""
    found = events(store, weaving)
    if len(found) == 0:
        raise NothingBad()
    return found[0][2]


def books_behind(store, weaving):
    """Return the list of the catalogs that a store has in a weaving, each once."""
    behind = store.copy()
    books = [behind.catalog]
    for turn in weaving:
        made_turn(behind, turn)
        if behind.catalog not in books:
            books.append(behind.catalog)
    return books


def small_choices(sessions, key):
    """Return the lists of one or two numbers of sessions that have a key, or of which one is a change."""
    changes = [number for number, asked in enumerate(sessions) if is_change(asked)]
    others = [number for number, asked in enumerate(sessions) if number not in changes and asked[-1] == key]
    alone = [[number] for number in [*others, *changes]]
    pairs = [list(pair) for pair in combinations(others, 2)]
    return [*alone, *pairs, *[sorted([one, two]) for one in others for two in changes]]


def small_starts(protocol, books, key, sessions):
    """Return the stores from which a few sessions may go wrong."""
    return [Store(protocol, book, rows) for book in books for rows in small_rows(book, key, sessions)]


def small_rows(book, key, sessions):
    """Return the list of the rows of a key that may matter to sessions that begin with a catalog."""
    part = book.part_of(key)
    near = [] if part is None else [{part: [key]}]
    beside = [{other: [key]} for other in sorted(set(parts_of(sessions))) if other not in book]
    return [{}, *near, *beside, *[{**one, **other} for one in near for other in beside]]


def parts_of(sessions):
    """Return the list of the new parts of changes, and of the parts of sessions of the kind direct."""
    direct = [asked[1] for asked in sessions if asked[0] == "direct"]
    return [*direct, *[part for asked in sessions if is_change(asked) for part in roles(asked)[1]]]


def starts(store, weaving, numbers):
    """Go through the stores from which some sessions of a weaving may go wrong."""
    turns = last_attempts(store, weaving)
    key = first_key(store, weaving)
    sessions = sessions_of(chosen_turns(turns, numbers))
    for start in small_starts(store.protocol, books_behind(store, weaving), key, sessions):
        yield start
