"""The tuples by which sessions are told, and their texts."""

from hungparts.changes import is_change
from hungparts.errors import InvalidText
from hungparts.words import is_integer, is_name, is_number_text, read_span, span_text

# What stands behind the kind in the text of a session.
FORMS = {
    "put": ("key",),
    "strike": ("key",),
    "read": ("key",),
    "direct": ("name", "key"),
    "hang": ("name", "span"),
    "take": ("name",),
    "split": ("name", "key", "name", "name"),
    "join": ("name", "name", "name"),
}


def is_session(value):
    """Tell whether any value is the tuple of a session."""
    if not isinstance(value, tuple) or len(value) < 2:
        return False
    if value[0] in ("put", "strike", "read"):
        return len(value) == 2 and is_integer(value[1])
    if value[0] == "direct":
        return len(value) == 3 and is_name(value[1]) and is_integer(value[2])
    return is_change(value)


def session_text(asked):
    """Return the text of a session: its items, separated by spaces."""
    return " ".join([item_text(item) for item in asked])


def item_text(item):
    """Return the text of an item of a session."""
    return span_text(item) if isinstance(item, tuple) else str(item)


def read_session(text):
    """Return the session with a text."""
    kind, *words = text.split(" ")
    if kind not in FORMS or len(words) != len(FORMS[kind]):
        raise InvalidText(text)
    asked = (kind, *[read_item(word, form) for word, form in zip(words, FORMS[kind])])
    if not is_session(asked):
        raise InvalidText(text)
    return asked


def read_item(word, form):
    """Return the item of a session with a text; whether a name is one is not checked here."""
    if form == "span":
        return read_span(word)
    if form == "key":
        return read_number(word)
    return word


def read_number(text):
    """Return the integer with a text."""
    if not is_number_text(text):
        raise InvalidText(text)
    return int(text)
