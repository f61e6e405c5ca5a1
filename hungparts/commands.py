"""The commands of a desk."""

from hungparts.catalogs import read_catalog
from hungparts.errors import InvalidCommand, InvalidText
from hungparts.protocols import read_protocol
from hungparts.scening import read_rows
from hungparts.sessions import read_number, read_session
from hungparts.verdicts import wrong
from hungparts.weavings import weaving_text
from hungparts.words import is_name

# What stands in a command between the lines of a text.
BREAK = " | "


def carried_out(desk, line):
    """Carry out a command at a desk, and return its answer."""
    if not isinstance(line, str) or "\n" in line:
        raise InvalidCommand(line)
    word, *words = line.split(" ")
    if word not in READERS or "" in words:
        raise InvalidCommand(line)
    reader = READERS[word]
    try:
        told = reader(words)
    except InvalidText:
        raise InvalidCommand(line) from None
    answer = ANSWERS[word]
    return answer(desk, told)


def read_nothing(words):
    """Read what stands behind the word of a command that is told by this word alone."""
    if len(words) > 0:
        raise InvalidText(words[0])


def read_word(words):
    """Read what stands behind the word of a command that is told by one word more, and return that."""
    if len(words) != 1:
        raise InvalidText(" ".join(words))
    return words[0]


def read_part(words):
    """Read the name of a part."""
    part = read_word(words)
    if not is_name(part):
        raise InvalidText(part)
    return part


def read_step(words):
    """Read the number of a session."""
    return read_number(read_word(words))


def read_begin(words):
    """Read the tuple of a session."""
    return read_session(" ".join(words))


def read_put(words):
    """Read a name and a protocol."""
    text = "\n".join(lines_of(words[1:]))
    return words[0], read_protocol(text)


def read_start(words):
    """Read a name, a catalog and the rows of parts."""
    first, *lines = lines_of(words[1:])
    catalog = read_catalog(first)
    rows = {}
    for line in lines:
        part, keys = read_rows(line)
        if not is_name(part) or part in rows or len(set(keys)) < len(keys):
            raise InvalidText(line)
        rows[part] = keys
    return words[0], catalog, rows


def lines_of(words):
    """Return the lines of a text that a command has in its words; without any words it has none."""
    if len(words) == 0:
        raise InvalidText("")
    return " ".join(words).split(BREAK)


def answer_put(desk, told):
    """Put a protocol."""
    name, protocol = told
    desk.put(name, protocol)
    return "ok"


def answer_drop(desk, name):
    """Drop a protocol."""
    desk.drop(name)
    return "ok"


def answer_undo(desk, _):
    """Undo a change."""
    desk.undo()
    return "ok"


def answer_redo(desk, _):
    """Redo a change."""
    desk.redo()
    return "ok"


def answer_start(desk, told):
    """Open a store."""
    name, catalog, rows = told
    desk.start(name, catalog, rows)
    return "ok"


def answer_begin(desk, asked):
    """Begin a session, and answer its number."""
    return str(desk.begin(asked))


def answer_step(desk, number):
    """Do a step, and answer its events."""
    return events_text(desk.step(number), "ok")


def answer_finish(desk, _):
    """Let the sessions go on, and answer their numbers."""
    return words_text(desk.finish())


def answer_names(desk, _):
    """Answer the names of the protocols."""
    return words_text(desk.names())


def answer_show(desk, name):
    """Answer the text of a protocol."""
    return str(desk.entry(name))


def answer_catalog(desk, _):
    """Answer the text of the current catalog."""
    return str(desk.store().catalog)


def answer_rows(desk, part):
    """Answer the keys of the rows of a part that are alive."""
    return words_text(desk.store().alive(part))


def answer_events(desk, _):
    """Answer all events."""
    return events_text(desk.events(), "none")


def answer_right(desk, name):
    """Answer whether a protocol is right, and a weaving that goes wrong if it is not."""
    found = wrong(desk.entry(name))
    if found is None:
        return "right"
    _, weaving = found
    return f"wrong {weaving_text(weaving)}"


def words_text(told):
    """Return the text of a list of strings or integers."""
    return " ".join([str(item) for item in told]) if told else "none"


def events_text(events, empty):
    """Return the text of a list of events, or another one if there are none."""
    return ", ".join([f"{kind} {key}" for kind, key, _ in events]) if events else empty


# How what stands behind the word of a command is read.
READERS = {
    "put": read_put,
    "drop": read_word,
    "undo": read_nothing,
    "redo": read_nothing,
    "start": read_start,
    "begin": read_begin,
    "step": read_step,
    "finish": read_nothing,
    "names": read_nothing,
    "show": read_word,
    "catalog": read_nothing,
    "rows": read_part,
    "events": read_nothing,
    "right": read_word,
}

# What is done then, and what is answered.
ANSWERS = {
    "put": answer_put,
    "drop": answer_drop,
    "undo": answer_undo,
    "redo": answer_redo,
    "start": answer_start,
    "begin": answer_begin,
    "step": answer_step,
    "finish": answer_finish,
    "names": answer_names,
    "show": answer_show,
    "catalog": answer_catalog,
    "rows": answer_rows,
    "events": answer_events,
    "right": answer_right,
}
