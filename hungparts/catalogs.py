"""Catalogs: the parts of a table, and the keys that each of them gets."""

from hungparts.errors import InvalidSpans, InvalidText, NameTaken, Overlap, PartsError, TooMany, UnknownPart
from hungparts.words import is_name, meet, read_span, require_key, require_name, require_span, span_text

MOST_PARTS = 8


class Catalog:
    """Up to eight parts, each with its span, or with all keys that are in no span. It never changes."""

    def __init__(self, spans=None, *, rest=None):
        given = {} if spans is None else spans
        require_spans(given)
        self._spans = ordered_spans(given)
        require_rest(rest, self._spans)
        self._rest = rest
        names = list(self._spans) if rest is None else [*self._spans, rest]
        if len(names) > MOST_PARTS:
            raise TooMany(MOST_PARTS)
        self._names = sorted(names)
        self._stretches = all_stretches(self._spans, rest)

    @property
    def rest(self):
        """The part that gets all keys that are in no span, or None."""
        return self._rest

    def names(self):
        """Return the ascending list of all parts."""
        return list(self._names)

    def __len__(self):
        return len(self._names)

    def __contains__(self, x):
        return x in self._names

    def __eq__(self, other):
        return isinstance(other, Catalog) and self._spans == other._spans and self._rest == other._rest

    def span(self, name):
        """Return the span of a part, None for the rest part."""
        if name not in self:
            raise UnknownPart(name)
        return self._spans.get(name)

    def part_of(self, key):
        """Return the part to which a key is given, or None."""
        require_key(key)
        # The stretches cover all keys in ascending order, so the first one that does not end before the key has it.
        for _, high, part in self._stretches:
            if high is None or key < high:
                return part

    def stretches(self):
        """Return the list of the tuples (low, high, part) that cover all keys in ascending order."""
        return list(self._stretches)

    def with_part(self, name, span):
        """Return the catalog with one more part that has a span."""
        require_name(name)
        require_span(span)
        if name in self:
            raise NameTaken(name)
        other = first_meeting(self._spans, span)
        if other is not None:
            raise Overlap(other)
        return Catalog({**self._spans, name: span}, rest=self._rest)

    def without_part(self, name):
        """Return the catalog without a part, which may be the rest part."""
        if name not in self:
            raise UnknownPart(name)
        if name == self._rest:
            return Catalog(self._spans)
        kept = {part: self._spans[part] for part in self._spans if part != name}
        return Catalog(kept, rest=self._rest)

    def with_rest(self, name):
        """Return the catalog with another rest part, or with none for None."""
        return Catalog(self._spans, rest=name)

    def __str__(self):
        if len(self._names) == 0:
            return "empty"
        texts = [f"{name} {span_text(self._spans[name])}" for name in self._spans]
        rest = [] if self._rest is None else [f"rest {self._rest}"]
        return "; ".join([*texts, *rest])


def require_spans(spans):
    """Raise an exception unless a value is a dict from names to spans."""
    if not isinstance(spans, dict):
        raise InvalidSpans(spans)
    for name in spans:
        require_name(name)
    for name in sorted(spans):
        require_span(spans[name])


def require_rest(rest, spans):
    """Raise an exception unless a value can be the rest part beside parts with spans."""
    if rest is None:
        return
    require_name(rest)
    if rest in spans:
        raise NameTaken(rest)


def ordered_spans(spans):
    """Return a copy of a dict from names to spans in ascending order; no two of the spans may meet."""
    ordered = {}
    for name in sorted(spans):
        if first_meeting(ordered, spans[name]) is not None:
            raise Overlap(name)
        ordered[name] = spans[name]
    return ordered


def first_meeting(spans, span):
    """Return the first name, in the order of a dict, whose span meets a span, or None."""
    for name in spans:
        if meet(spans[name], span):
            return name
    return None


def all_stretches(spans, rest):
    """Return the stretches of a catalog, in which the rest part, or None, gets what is in no span."""
    found = []
    end = None
    for name in sorted(spans, key=lambda part: low_place(spans[part])):
        low, high = spans[name]
        if low != end:
            found.append((end, low, rest))
        found.append((low, high, name))
        end = high
    # None is the end of the last span only if that span has no limit: then no keys are left.
    if not found or end is not None:
        found.append((end, None, rest))
    return found


def low_place(span):
    """Return a tuple by which spans are sorted by their low limits, None ahead of all integers."""
    low = span[0]
    return (0, 0) if low is None else (1, low)


def read_catalog(text):
    """Return the catalog with a text."""
    if not isinstance(text, str):
        raise InvalidText(text)
    try:
        catalog = parsed_catalog(text)
    except PartsError:
        raise InvalidText(text) from None
    # Parts that come twice or in another order are read as well, but no catalog is written so.
    if str(catalog) != text:
        raise InvalidText(text)
    return catalog


def parsed_catalog(text):
    """Return the catalog that the items of a text tell, whatever their order."""
    if text == "empty":
        return Catalog()
    spans = {}
    rest = None
    for item in text.split("; "):
        name, _, told = item.partition(" ")
        # A part with a span may be called rest, too: then no name follows, but the text of a span.
        if name == "rest" and is_name(told):
            rest = told
        else:
            spans[name] = read_span(told)
    return Catalog(spans, rest=rest)
