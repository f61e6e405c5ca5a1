"""What several tests need: values of every kind of [7], small catalogs, and a check of exceptions."""

import itertools
import unittest

from hungparts import errors
from hungparts.catalogs import Catalog, read_catalog
from hungparts.changes import roles
from hungparts.protocols import Rulebook, plain_protocol, read_protocol
from hungparts.store import Store
from hungparts.strengths import Strengths, standard
from hungparts.versions import Heap

# The most that an integer of thirty digits can be.
BIG = 10 ** 30 - 1

# The fields of the exceptions, as the interface lists them; None for those without one.
FIELDS = {
    "InvalidName": "value",
    "InvalidKey": "value",
    "InvalidSpan": "value",
    "InvalidSpans": "value",
    "InvalidCatalog": "value",
    "InvalidChange": "value",
    "InvalidModes": "value",
    "InvalidClash": "value",
    "InvalidStrengths": "value",
    "InvalidProgram": "value",
    "InvalidPrograms": "value",
    "InvalidProtocol": "value",
    "InvalidRows": "value",
    "InvalidSession": "value",
    "InvalidNumber": "value",
    "InvalidWeaving": "value",
    "InvalidStore": "value",
    "InvalidScene": "value",
    "InvalidLog": "value",
    "InvalidText": "value",
    "InvalidCommand": "value",
    "Duplicate": "name",
    "UnknownPart": "name",
    "UnknownMode": "name",
    "UnknownEntry": "name",
    "NameTaken": "name",
    "Overlap": "name",
    "NotInside": "at",
    "NotNeighbours": "name",
    "NoProgram": "kind",
    "TooMany": "bound",
    "Ended": "number",
    "Waiting": "number",
    "NothingBad": None,
    "NotRight": None,
    "NoStore": None,
    "NothingToUndo": None,
    "NothingToRedo": None,
}

KINDS = ["put", "strike", "read", "direct", "hang", "take", "split", "join"]
INTEGERS = [0, 1, -1, 7, 255, BIG, -BIG]
NAMES = ["a", "z", "ab", "abcdefgh", "zzzzzzzz", "rest", "empty", "tables", "tabl"]
SPANS = [(None, None), (None, 0), (0, None), (0, 1), (-1, 0), (-7, -5), (-BIG, BIG), (BIG - 1, BIG)]
NO_SPANS = [
    (), (0,), (0, 1, 2), (0, 0), (1, 0), (-5, -7), (BIG, -BIG),
    (True, 5), (0, True), (False, 5), (None, False), (True, None), (False, True),
    ("0", "1"), (0, "1"), ("", ""), (None, "a"), ((), ()), ((0, 1), 2), ([0], [1]), (None, [1]), ({}, None),
    [0, 1], [None, None], [0, None], {0: 1}, "..", "0..1",
]
NO_NAMES = [
    "", "table", "abcdefghi", "a" * 200, "A", "aB", "a1", "1", "a b", " a", "a ", "a\n", "\na", "\n", "a_b", "a-b",
    "`", "{", "a{", "`a", "a.", ".", "-1", "0", "a;b", ["a"], ("a",), {"a": 1},
]


def nested(levels):
    """A list, a tuple and a dict that are nested so deep."""
    row, pair, table = "a", 1, (0, 1)
    for _ in range(levels):
        row, pair, table = [row], (pair, "a"), {"a": table}
    return [row, pair, table]


def objects():
    """Objects of the package, new ones at each call."""
    return [
        Catalog(), Catalog({"a": (0, 1)}, rest="b"), errors.InvalidName("a"), errors.PartsError(),
        Strengths(["a"], []), Rulebook(Strengths(["a"], []), {}), rules("take: close"), Heap(), Heap({"a": [1]}),
        Store(plain_protocol(), Catalog()),
    ]


def rules(*lines):
    """The protocol with the standard strengths and with the programs that some lines tell, in any order."""
    ordered = sorted(lines, key=lambda line: KINDS.index(line.partition(":")[0]))
    return read_protocol("\n".join([str(standard()), *ordered]))


def observed(store):
    """All that a store tells, but for its state and the order of versions."""
    numbers = range(len(store))
    ways = [
        store.asked, store.outcome, store.next_step, store.at_hand, store.told, store.due, store.locks, store.can,
    ]
    running = store.running()
    parts = store.parts()
    things = ["table", *parts, *store.catalog.names()]
    return [
        str(store.catalog), store.edition, len(store), parts, running, store.settled(),
        [[way(number) for way in ways] for number in numbers], [store.waits_for(number) for number in running],
        [[store.alive(part), sorted(map(str, store.versions(part)))] for part in parts],
        [store.holders(thing) for thing in things],
    ]


def opened(protocol, text, sessions=(), rows=None):
    """A store with the catalog of a text, in which some sessions have begun."""
    store = Store(protocol, read_catalog(text), rows)
    for asked in sessions:
        store.begin(asked)
    return store


# Programs without a single step that makes anything safe.
BARE = (
    "put: look, put, end", "strike: look, strike, end", "read: look, view, read, end", "direct: put, end",
    "hang: close", "take: close", "split: move, switch, end", "join: move, close",
)


def rows_now(store):
    """The tuples (part, key) of all alive rows in the parts of the current catalog."""
    return [(part, key) for part in store.catalog.names() for key in store.alive(part)]


def events_by_words(before, after, number):
    """The events of a step by the words of [91], told from the store before the step and from that behind it."""
    step, asked = before.next_step(number), after.asked(number)
    outside, twice = [], []
    for store in (before, after):
        rows = rows_now(store)
        outside.append({key for part, key in rows if store.catalog.part_of(key) != part})
        twice.append({key for _, key in rows if len([other for _, other in rows if other == key]) > 1})
    found = [("outside", key) for key in sorted(outside[1] - outside[0])]
    found += [("twice", key) for key in sorted(twice[1] - twice[0])]
    if step[0] in ("switch", "close") and asked[0] in ("split", "join") and after.edition > before.edition:
        found += [("lost", key) for key in sorted({key for part in roles(asked)[0] for key in after.alive(part)})]
    here = after.at_hand(number)
    given = after.catalog.part_of(asked[1]) if asked[0] in ("put", "strike") else None
    if asked[0] == "put" and after.outcome(number) == "done" and here != given:
        found.append(("missed", asked[1]))
    if step == ("strike",) and here != given:
        found.append(("astray", asked[1]))
    if step == ("read",) and after.told(number) != after.due(number):
        found.append(("unseen", asked[1]))
    return [(*event, number) for event in found]


def others():
    """Values of every kind that are neither integers nor names nor spans."""
    return [
        None, True, False, [], {}, [0, 1, 2], ["a", "b"], {"a": (0, 1)}, {1: "a"}, [None], (None,), ("a", "b"),
        *NO_SPANS, *NO_NAMES, *objects(), objects(), tuple(objects()), *nested(1), *nested(8),
    ]


def every_value():
    """Values of every kind of [7]."""
    return [*INTEGERS, *NAMES, *SPANS, *others()]


def small_spans():
    """All spans whose limits are None or from 0 to 3."""
    limits = [None, 0, 1, 2, 3]
    pairs = itertools.product(limits, limits)
    return [(low, high) for low, high in pairs if low is None or high is None or low < high]


def keys_of(span, keys):
    """Those of some keys that a span has by [2]."""
    low, high = span
    return [key for key in keys if (low is None or low <= key) and (high is None or key < high)]


# All keys that small spans tell apart, and one more at both ends.
SMALL_KEYS = list(range(-2, 6))


def small_books():
    """The spans and the rest part, as they may be passed to Catalog, of many small catalogs."""
    books = []
    for many in range(4):
        for spans in itertools.permutations(small_spans(), many):
            keys = [key for span in spans for key in keys_of(span, SMALL_KEYS)]
            if len(keys) == len(set(keys)):
                for rest in (None, "aa", "rest"):
                    books.append((dict(zip("bac", spans)), rest))
    return books


class Case(unittest.TestCase):
    """A test case that also checks which exception a call raises, and what its field has."""

    def assert_error(self, name, told, call, *args, **named):
        """A call raises just the exception with this name, and its only field has what is told."""
        kind = getattr(errors, name)
        with self.assertRaises(errors.PartsError) as caught:
            call(*args, **named)
        self.assertIs(type(caught.exception), kind)
        self.assertEqual(list(vars(caught.exception)), [FIELDS[name]])
        self.assert_same(getattr(caught.exception, FIELDS[name]), told)

    def assert_same(self, got, told):
        """Strings and integers are equal and of one type, all other values are the very same object."""
        if isinstance(told, (int, str)):
            self.assertIs(type(got), type(told))
            self.assertEqual(got, told)
        else:
            self.assertIs(got, told)

    def assert_exact(self, read, write, texts, signs):
        """Texts with a character more or less are none, or just those of what is read from them."""
        for text in texts:
            for at in range(len(text) + 1):
                self.assert_exact_text(read, write, text[:at] + text[at + 1:])
                for sign in signs:
                    self.assert_exact_text(read, write, text[:at] + sign + text[at:])

    def assert_exact_text(self, read, write, text):
        """A string is no text, or just that of what is read from it."""
        try:
            value = read(text)
        except errors.InvalidText as error:
            self.assertEqual(error.value, text)
        else:
            self.assertEqual(write(value), text)
