"""Weavings: the turns that sessions take, one after the other, and all ways in which they can go on."""

from hungparts.errors import InvalidNumber, InvalidStore, InvalidText, InvalidWeaving
from hungparts.programs import step_text
from hungparts.sessions import is_session, read_number, read_session, session_text
from hungparts.steps import ready_now
from hungparts.store import Store
from hungparts.words import is_integer


def require_store(value):
    """Raise InvalidStore for any value that is not a Store."""
    if not isinstance(value, Store):
        raise InvalidStore(value)


def require_turns(value):
    """Raise InvalidWeaving for any value that is not a list of tuples and integers."""
    if not isinstance(value, list) or not all([isinstance(turn, tuple) or is_integer(turn) for turn in value]):
        raise InvalidWeaving(value)


def run(store, weaving):
    """Make the turns of a weaving on a copy of a store, and return this copy and the list of what they returned."""
    require_store(store)
    require_turns(weaving)
    behind = store.copy()
    answers = []
    for turn in weaving:
        answers.append(made_turn(behind, turn))
    return behind, answers


def made_turn(store, turn):
    """Make a turn in a store, and return what it returns."""
    return store.begin(turn) if isinstance(turn, tuple) else store.step(turn)


def ready(store):
    """Return the ascending list of the sessions that run and whose next step is possible now."""
    require_store(store)
    return ready_now(store.stand)


def is_over(store):
    """Tell whether no session runs."""
    require_store(store)
    return len(store.running()) == 0


def is_stuck(store):
    """Tell whether some session runs, but none is ready."""
    return not is_over(store) and len(ready(store)) == 0


def ring(store):
    """Return a list of sessions each of which waits for the next one, and the last one for the first one, or None."""
    if not is_stuck(store):
        return None
    # Each session that runs waits for one that runs, so this way comes back to itself.
    number = store.running()[0]
    way = []
    while number not in way:
        way.append(number)
        number = store.waits_for(number)[0]
    found = way[way.index(number):]
    first = found.index(min(found))
    return [*found[first:], *found[:first]]


def endings(store):
    """Go through the lists of numbers by which the sessions can go on until the store is over or stuck."""
    require_store(store)
    # The way that comes first in ascending order is always the last one here.
    ways = [([], store.copy())]
    while ways:
        turns, behind = ways.pop()
        able = ready(behind)
        if not able:
            yield turns
        for number in reversed(able):
            ways.append(([*turns, number], stepped(behind, number)))


def stepped(store, number):
    """Return the store behind the next step of a session."""
    behind = store.copy()
    behind.step(number)
    return behind


def endings_count(store):
    """Return how many endings there are."""
    require_store(store)
    # Orders of turns that come to the same go on in the same ways, so these are counted once for each state.
    first = store.state()
    counts = {}
    ways = [(first, *all_stepped(store))]
    while ways:
        state, states, stores = ways[-1]
        if stores:
            behind = stores.pop()
            further = states[len(stores)]
            if further not in counts:
                ways.append((further, *all_stepped(behind)))
        else:
            # Where nobody is ready, there is one ending: to do nothing.
            counts[state] = max(1, sum([counts[further] for further in states]))
            ways.pop()
    return counts[first]


def all_stepped(store):
    """Return the lists of the states and of the stores behind one turn more, of each session that is ready."""
    stores = [stepped(store, number) for number in ready(store)]
    return [behind.state() for behind in stores], stores


def first_ending(store, order):
    """Return the ending in which the next turn is always that of the first one in an order among those ready."""
    require_store(store)
    if not is_order(order, store.running()):
        raise InvalidNumber(order)
    behind = store.copy()
    turns = []
    able = ready(behind)
    while able:
        number = [other for other in order if other in able][0]
        behind.step(number)
        turns.append(number)
        able = ready(behind)
    return turns


def is_order(value, numbers):
    """Tell whether any value is a list with each of some ascending numbers once."""
    return isinstance(value, list) and all([is_integer(item) for item in value]) and sorted(value) == numbers


def attempts(store, weaving):
    """Return for each session of a weaving the list of the indexes of the turns of its last attempt."""
    require_store(store)
    if len(store) > 0:
        raise InvalidStore(store)
    _, answers = run(store, weaving)
    found = []
    for index, turn in enumerate(weaving):
        if isinstance(turn, tuple):
            found.append([])
        elif answers[index] == "anew":
            found[turn] = []
        else:
            found[turn].append(index)
    return found


def last_attempts(store, weaving):
    """Return a weaving without the steps of attempts that were given up."""
    kept = [index for indexes in attempts(store, weaving) for index in indexes]
    return [turn for index, turn in enumerate(weaving) if isinstance(turn, tuple) or index in kept]


def weaving_text(weaving):
    """Return the text of a weaving."""
    if not isinstance(weaving, list) or not all([is_turn(turn) for turn in weaving]):
        raise InvalidWeaving(weaving)
    return "\n".join([turn_text(turn) for turn in weaving])


def is_turn(value):
    """Tell whether any value is the tuple of a session or an integer from 0 on."""
    return is_session(value) or (is_integer(value) and value >= 0)


def turn_text(turn):
    """Return the line of a turn in the text of a weaving."""
    return f"begin {session_text(turn)}" if isinstance(turn, tuple) else f"step {turn}"


def read_weaving(text):
    """Return the weaving with a text."""
    if not isinstance(text, str):
        raise InvalidText(text)
    if text == "":
        return []
    try:
        weaving = [read_turn(line) for line in text.split("\n")]
    except InvalidText:
        raise InvalidText(text) from None
    return weaving


def read_turn(line):
    """Return the turn with a line in the text of a weaving."""
    word, _, told = line.partition(" ")
    if word == "begin":
        return read_session(told)
    if word != "step" or told.startswith("-"):
        raise InvalidText(line)
    return read_number(told)


def report(store, weaving):
    """Return a list of strings that tell of each turn what it does and what it returns."""
    require_store(store)
    require_turns(weaving)
    behind = store.copy()
    lines = []
    for turn in weaving:
        lines.append(turn_report(behind, turn))
    return lines


def turn_report(store, turn):
    """Make a turn in a store, and return the line that tells of it."""
    if isinstance(turn, tuple):
        number = store.begin(turn)
        return f"{number}: {session_text(turn)}"
    step = store.next_step(turn)
    result = store.step(turn)
    return f"{turn}: {step_text(step)} - {result}"
