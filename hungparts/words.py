"""Integers, names and spans: what they are, and the texts of spans."""

from hungparts.errors import InvalidKey, InvalidName, InvalidSpan, InvalidText

LONGEST_NAME = 8
MOST_DIGITS = 30


def is_integer(value):
    """Tell whether any value is an integer: an int other than True and False."""
    return isinstance(value, int) and not isinstance(value, bool)


def is_name(value):
    """Tell whether any value is a name: one to eight letters from a to z, but not "table"."""
    if not isinstance(value, str) or value == "table":
        return False
    return 1 <= len(value) <= LONGEST_NAME and all(["a" <= sign <= "z" for sign in value])


def is_span(value):
    """Tell whether any value is a span: a tuple (low, high) with low less than high."""
    if not isinstance(value, tuple) or len(value) != 2:
        return False
    low, high = value
    if not is_limit(low) or not is_limit(high):
        return False
    return low is None or high is None or low < high


def is_limit(value):
    """Tell whether any value can be one of the two limits of a span."""
    return value is None or is_integer(value)


def require_name(value):
    """Raise InvalidName for any value that is not a name."""
    if not is_name(value):
        raise InvalidName(value)


def require_span(value):
    """Raise InvalidSpan for any value that is not a span."""
    if not is_span(value):
        raise InvalidSpan(value)


def require_key(value):
    """Raise InvalidKey for any value that is not an integer."""
    if not is_integer(value):
        raise InvalidKey(value)


def in_span(span, key):
    """Tell whether a key is in a span, the low limit included and the high one not."""
    require_span(span)
    require_key(key)
    low, high = span
    return (low is None or low <= key) and (high is None or key < high)


def meet(one, other):
    """Tell whether some key is in both of two spans."""
    return common(one, other) is not None


def common(one, other):
    """Return the span of the keys that are in both of two spans, or None."""
    require_span(one)
    require_span(other)
    lows = [low for low in (one[0], other[0]) if low is not None]
    highs = [high for high in (one[1], other[1]) if high is not None]
    both = (max(lows, default=None), min(highs, default=None))
    return both if is_span(both) else None


def span_text(span):
    """Return the text of a span, such as 0..10, ..10 or 0.. with the limits that it has."""
    require_span(span)
    low, high = span
    return f"{limit_text(low)}..{limit_text(high)}"


def limit_text(limit):
    """Return the text of a limit of a span; that of None is empty."""
    return "" if limit is None else str(limit)


def read_span(text):
    """Return the span with a text."""
    if not isinstance(text, str):
        raise InvalidText(text)
    low, dots, high = text.partition("..")
    if dots == "" or not is_limit_text(low) or not is_limit_text(high):
        raise InvalidText(text)
    span = (read_limit(low), read_limit(high))
    if not is_span(span):
        raise InvalidText(text)
    return span


def is_limit_text(text):
    """Tell whether a string is the text of a limit of a span."""
    return text == "" or is_number_text(text)


def read_limit(text):
    """Return the limit with a text for which is_limit_text holds."""
    return None if text == "" else int(text)


def is_number_text(text):
    """Tell whether a string is the decimal notation of an integer with at most thirty digits."""
    digits = text.removeprefix("-")
    if not 1 <= len(digits) <= MOST_DIGITS:
        return False
    if not all(["0" <= sign <= "9" for sign in digits]):
        return False
    # Needless zeros and "-0" are read as numbers, too, but no number is written so.
    return str(int(text)) == text
