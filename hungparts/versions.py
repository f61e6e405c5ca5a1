"""Versions of rows: which sessions made them, and which ones struck them or moved them away."""

from hungparts.errors import InvalidRows
from hungparts.words import is_integer, is_name


class Heap:
    """The versions (key, born, dead) of the rows in all parts."""

    def __init__(self, rows=None):
        if not is_rows(rows):
            raise InvalidRows(rows)
        given = {} if rows is None else rows
        # The tuples are exchanged, never changed: so copies of a heap can share them.
        self._rows = {part: tuple([(key, None, None) for key in given[part]]) for part in given}

    def parts(self):
        """Return the ascending list of the parts that have versions."""
        return sorted([part for part in self._rows if len(self._rows[part]) > 0])

    def versions(self, part):
        """Return the list of the versions of a part, in the order in which they came."""
        return list(self._rows.get(part, ()))

    def alive(self, part, settled):
        """Return the ascending list of the keys of the alive versions of a part."""
        return sorted([version[0] for version in self.versions(part) if is_alive(version, settled)])

    def count(self, part, key, settled):
        """Return the number of the alive versions of a key in a part."""
        return len([version for version in self._of_key(part, key) if is_alive(version, settled)])

    def pending(self, part, key, number, settled):
        """Return the ascending list of the sessions because of which versions of a key are pending for a session."""
        found = [pending_for(version, number, settled) for version in self._of_key(part, key)]
        return sorted(set([other for other in found if other is not None]))

    def marked(self, part, number, settled, key=None):
        """Return the ascending list of the sessions because of which versions are marked for a session."""
        versions = self.versions(part) if key is None else self._of_key(part, key)
        found = [marked_for(version, number, settled) for version in versions]
        return sorted(set([other for other in found if other is not None]))

    def put(self, part, key, number):
        """Add a version of a key that a session makes."""
        self._rows[part] = (*self._rows.get(part, ()), (key, number, None))

    def strike(self, part, key, number, settled):
        """Let a session strike all alive versions of a key in a part, and return how many there are."""
        versions = self.versions(part)
        struck = [at for at, found in enumerate(versions) if found[0] == key and is_alive(found, settled)]
        for at in struck:
            versions[at] = (key, versions[at][1], number)
        self._rows[part] = tuple(versions)
        return len(struck)

    def move(self, part, catalog, number, settled):
        """Let a session move all alive versions of a part that a catalog gives to other parts, and return how many."""
        versions = self.versions(part)
        leaving = [
            at for at, found in enumerate(versions)
            if is_alive(found, settled) and catalog.part_of(found[0]) not in (None, part)
        ]
        for at in leaving:
            key, born, _ = versions[at]
            versions[at] = (key, born, number)
            self.put(catalog.part_of(key), key, number)
        self._rows[part] = tuple(versions)
        return len(leaving)

    def forget(self, number):
        """Undo all that a session has put, struck and moved."""
        for part in list(self._rows):
            kept = [version for version in self._rows[part] if version[1] != number]
            self._rows[part] = tuple([(key, born, None if dead == number else dead) for key, born, dead in kept])

    def copy(self):
        """Return another heap with the same versions."""
        other = Heap()
        other._rows = dict(self._rows)
        return other

    def __eq__(self, other):
        return isinstance(other, Heap) and self.listed() == other.listed()

    def listed(self):
        """Return a tuple that is the same for two heaps exactly if they are equal."""
        return tuple([(part, tuple(sorted([plain(found) for found in self._rows[part]]))) for part in self.parts()])

    def _of_key(self, part, key):
        """Return the list of the versions of a key in a part."""
        return [version for version in self._rows.get(part, ()) if version[0] == key]


def is_rows(value):
    """Tell whether any value can be the rows of a heap."""
    if value is None:
        return True
    if not isinstance(value, dict):
        return False
    return all([is_name(part) and are_different_keys(value[part]) for part in value])


def are_different_keys(value):
    """Tell whether any value is a list of integers that are all different."""
    if not isinstance(value, list) or not all([is_integer(key) for key in value]):
        return False
    return len(set(value)) == len(value)


def is_real(version, settled):
    """Tell whether a version was there from the beginning or made by a session that is settled."""
    born = version[1]
    return born is None or born in settled


def is_alive(version, settled):
    """Tell whether a version is real and not struck by a session that is settled."""
    return is_real(version, settled) and version[2] not in settled


def marked_for(version, number, settled):
    """Return the session because of which a version is marked for a session, or None."""
    dead = version[2]
    return dead if is_real(version, settled) and dead != number and dead not in settled else None


def pending_for(version, number, settled):
    """Return the session because of which a version is pending for a session, or None."""
    born = version[1]
    if is_real(version, settled):
        return marked_for(version, number, settled)
    return born if born != number else None


def plain(version):
    """Return a version in which None is -1, which is less than the numbers of all sessions."""
    key, born, dead = version
    return (key, -1 if born is None else born, -1 if dead is None else dead)
