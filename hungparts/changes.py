"""Changes of catalogs: parts are hung in, taken out, split and joined."""

from hungparts.catalogs import Catalog, first_meeting
from hungparts.errors import InvalidCatalog, InvalidChange, NameTaken, NotInside, NotNeighbours, Overlap, PartsError
from hungparts.errors import UnknownPart
from hungparts.words import common, is_integer, is_name, is_span


def is_change(value):
    """Tell whether any value is a change."""
    if not isinstance(value, tuple) or len(value) == 0:
        return False
    kind, *items = value
    if kind == "hang":
        return len(items) == 2 and is_name(items[0]) and is_span(items[1])
    if kind == "take":
        return len(items) == 1 and is_name(items[0])
    if kind == "split":
        return len(items) == 4 and is_integer(items[1]) and are_different_names([items[0], *items[2:]])
    return kind == "join" and len(items) == 3 and are_different_names(items)


def are_different_names(values):
    """Tell whether all items of a list are names, and no two of them the same."""
    return all([is_name(value) for value in values]) and len(set(values)) == len(values)


def require_change(value):
    """Raise InvalidChange for any value that is not a change."""
    if not is_change(value):
        raise InvalidChange(value)


def require_catalog(value):
    """Raise InvalidCatalog for any value that is not a Catalog."""
    if not isinstance(value, Catalog):
        raise InvalidCatalog(value)


def roles(change):
    """Return the list of the old parts of a change, and the list of its new ones."""
    require_change(change)
    kind, *items = change
    if kind == "hang":
        return [], items[:1]
    if kind == "take":
        return items, []
    if kind == "split":
        return items[:1], items[2:]
    return items[:2], items[2:]


def changed(catalog, change):
    """Return the catalog behind a change."""
    require_catalog(catalog)
    old, new = roles(change)
    spans = spans_of(catalog)
    for name in old:
        if name not in spans:
            raise UnknownPart(name)
    for name in new:
        if name in catalog:
            raise NameTaken(name)
    kept = {name: spans[name] for name in spans if name not in old}
    hung = new_spans(spans, change)
    return Catalog({**kept, **hung}, rest=catalog.rest)


def spans_of(catalog):
    """Return the dict from the parts with spans, in ascending order, to their spans."""
    return {name: catalog.span(name) for name in catalog.names() if name != catalog.rest}


def new_spans(spans, change):
    """Return the dict from the new parts of a change to their spans, if they may have these."""
    kind, *items = change
    if kind == "take":
        return {}
    if kind == "split":
        return split_spans(spans, *items)
    if kind == "join":
        return joined_spans(spans, *items)
    name, span = items
    other = first_meeting(spans, span)
    if other is not None:
        raise Overlap(other)
    return {name: span}


def split_spans(spans, name, at, left, right):
    """Return the spans of the two parts into which a part is split at a key."""
    low, high = spans[name]
    if not is_span((low, at)) or not is_span((at, high)):
        raise NotInside(at)
    return {left: (low, at), right: (at, high)}


def joined_spans(spans, left, right, name):
    """Return the span of the part into which two parts are joined."""
    low, end = spans[left]
    start, high = spans[right]
    # Two limits None are no neighbours: there are no keys beyond the one, and none before the other.
    if end is None or end != start:
        raise NotNeighbours(right)
    return {name: (low, high)}


def fits(catalog, change):
    """Tell whether a change of a catalog can be made."""
    require_catalog(catalog)
    require_change(change)
    try:
        changed(catalog, change)
    except PartsError:
        return False
    return True


def reverse(catalog, change):
    """Return the change that leads from the changed catalog back to the catalog."""
    changed(catalog, change)
    kind, *items = change
    if kind == "hang":
        return ("take", items[0])
    if kind == "take":
        return ("hang", items[0], catalog.span(items[0]))
    if kind == "split":
        name, _, left, right = items
        return ("join", left, right, name)
    left, right, name = items
    return ("split", name, catalog.span(right)[0], left, right)


def moved(one, other):
    """Return the list of the stretches (low, high, here, there) of keys that two catalogs give to different parts."""
    require_catalog(one)
    require_catalog(other)
    found = []
    # At each limit of a stretch of either catalog another part follows in it, so what both have in common cannot be
    # made longer.
    for low, high, here in one.stretches():
        for start, end, there in other.stretches():
            shared = common((low, high), (start, end))
            if shared is not None and here != there:
                found.append((*shared, here, there))
    return found


def carry(catalog, changes):
    """Return the catalog behind a list of changes, made one after the other."""
    require_catalog(catalog)
    if not isinstance(changes, list):
        raise InvalidChange(changes)
    behind = catalog
    for change in changes:
        behind = changed(behind, change)
    return behind


def way_between(one, other):
    """Return a list of changes that leads from the one catalog to the other one, or None."""
    require_catalog(one)
    require_catalog(other)
    if one.rest != other.rest:
        return None
    here, there = spans_of(one), spans_of(other)
    # What is taken out comes first: so there is room for what is hung in, also where both catalogs are full.
    takes = [("take", name) for name in here if there.get(name) != here[name]]
    hangs = [("hang", name, there[name]) for name in there if here.get(name) != there[name]]
    return [*takes, *hangs]
