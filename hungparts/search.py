"""The search through all ways in which the sessions of a store can go on."""

from hungparts.happenings import watched_step
from hungparts.steps import do_step, ready_now


def explored(stand):
    """Return the first of the shortest rows of turns whose last step has an event, or None, and a list of rows of
    turns: if there is no event, one for each state that can be reached."""
    # Rows are gone through by their lengths and then in ascending order, and only the first one that comes to a state
    # goes on: so the first event is at the end of a row as wished.
    seen = {stand.state(): True}
    rows = [[]]
    level = [([], stand)]
    while level:
        further = []
        for row, here in level:
            for number in ready_now(here):
                behind = here.copy()
                turns = [*row, number]
                if watched_step(behind, number):
                    return turns, rows
                state = behind.state()
                if state not in seen:
                    seen[state] = True
                    further.append((turns, behind))
        rows.extend([row for row, _ in further])
        level = further
    return None, rows


def all_ends(stand):
    """Return the list of the tuples (turns, stand) of the ways in which the sessions can go on until nobody is ready:
    for each state behind such ways the first of the shortest ones, by their lengths and then in ascending order."""
    seen = {stand.state(): True}
    ends = []
    level = [([], stand)]
    while level:
        further = []
        for row, here in level:
            numbers = ready_now(here)
            if not numbers:
                ends.append((row, here))
            for number in numbers:
                behind = here.copy()
                do_step(behind, number)
                state = behind.state()
                if state not in seen:
                    seen[state] = True
                    further.append(([*row, number], behind))
        level = further
    return ends
