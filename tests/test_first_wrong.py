"""Tests of [94]: the first of the shortest lists of turns by which something goes wrong."""

import random
import unittest

from hungparts.changes import fits, is_change
from hungparts.events import Watch, first_wrong
from hungparts.protocols import plain_protocol
from hungparts.store import Store
from hungparts.weavings import endings
from tests.helper import BARE, Case, every_value, observed, opened, rules

BOOK = "a 0..10; b 10..20; rest c"
LOCKED = rules(
    "put: look, lock table write, again, claim, end", "read: look, lock table read, view, read, end",
    "take: lock table alone, close",
)


def by_words(store, sessions):
    """What [94] tells, from all endings."""
    start = Watch(store)
    for asked in sessions:
        start.begin(asked)
    found = []
    for ending in endings(start.watched()):
        watch = start.copy()
        for index, number in enumerate(ending):
            if watch.step(number):
                found.append((index, ending[:index + 1]))
                break
    return min(found)[1] if found else None


class TestFirstWrong(Case):

    def test_no_sessions(self):
        self.assertIsNone(first_wrong(opened(rules(*BARE), BOOK), []))
        self.assertIsNone(first_wrong(opened(rules(*BARE), BOOK, rows={"a": [3]}), sessions=[]))

    def test_one_session(self):
        store = opened(rules(*BARE), BOOK, rows={"a": [3]})
        self.assertEqual(first_wrong(store=store, sessions=[("put", 3)]), [0, 0, 0])
        self.assertIsNone(first_wrong(store, [("put", 4)]))
        self.assertEqual(first_wrong(store, [("direct", "b", 4)]), [0, 0])
        self.assertIsNone(first_wrong(store, [("read", 3)]))

    def test_two_sessions(self):
        store = opened(rules(*BARE), BOOK)
        self.assertEqual(first_wrong(store, [("put", 3), ("take", "a")]), [0, 0, 1, 0])
        self.assertEqual(first_wrong(store, [("take", "a"), ("put", 3)]), [1, 0, 1, 1])
        self.assertIsNone(first_wrong(store, [("put", 3), ("take", "b")]))
        self.assertEqual(first_wrong(store, [("put", 3), ("put", 3)]), [0, 0, 0, 1, 1, 1])
        self.assertEqual(first_wrong(opened(LOCKED, BOOK), [("put", 3), ("take", "a")]), None)

    def test_the_first_in_ascending_order(self):
        # Nine lists with four turns lead to the same event.
        store = opened(rules(*BARE), BOOK)
        self.assertEqual(first_wrong(store, [("strike", 3), ("take", "a"), ("strike", 3)]), [0, 1, 0])
        self.assertEqual(first_wrong(store, [("take", "a"), ("strike", 3), ("strike", 3)]), [1, 0, 1])
        self.assertEqual(first_wrong(store, [("strike", 25), ("take", "a"), ("strike", 3)]), [2, 1, 2])

    def test_the_shortest_and_not_the_first(self):
        store = opened(rules(*BARE), BOOK, rows={"a": [3]})
        self.assertEqual(first_wrong(store, [("put", 3), ("strike", 3), ("take", "a")]), [0, 0, 0])
        self.assertEqual(first_wrong(store, [("put", 3), ("direct", "b", 4)]), [1, 1])

    def test_a_store_with_a_session_of_its_own(self):
        store = opened(rules(*BARE), BOOK, [("put", 3)])
        store.step(0)
        before = observed(store), store.state()
        self.assertEqual(first_wrong(store, [("take", "a")]), [0, 1, 0])
        self.assertIsNone(first_wrong(store, []))
        store.step(0)
        self.assertEqual(first_wrong(store, [("take", "a")]), [1, 0])
        self.assertEqual(first_wrong(store, [("put", 3)]), [0, 1, 1, 1])
        store.step(0)
        self.assertEqual(first_wrong(store, [("take", "a"), ("put", 3)]), [2, 2, 2])
        self.assertEqual(len(store), 1)
        self.assertNotEqual((observed(store), store.state()), before)

    def test_a_store_that_is_wrong_already(self):
        store = opened(rules(*BARE), BOOK, [("direct", "b", 3), ("direct", "b", 3), ("put", 3)])
        for number in (0, 0):
            store.step(number)
        # What is outside already is no event any more.
        self.assertEqual(first_wrong(store, []), [1, 1])
        for number in (1, 1):
            store.step(number)
        self.assertIsNone(first_wrong(store, []))
        self.assertEqual(first_wrong(store, [("direct", "c", 4)]), [3, 3])

    def test_the_store_and_the_list_stay_as_they_were(self):
        store, sessions = opened(rules(*BARE), BOOK), [("put", 3), ("take", "a")]
        before = observed(store), store.state()
        first_wrong(store, sessions).append(7)
        self.assertEqual(first_wrong(store, sessions), [0, 0, 1, 0])
        self.assertEqual(sessions, [("put", 3), ("take", "a")])
        self.assertEqual((observed(store), store.state()), before)

    def test_exceptions_in_their_order(self):
        store = opened(LOCKED, BOOK)
        for value in every_value():
            if not isinstance(value, Store):
                self.assert_error("InvalidStore", value, first_wrong, value, None)
            if not isinstance(value, list):
                self.assert_error("InvalidSession", value, first_wrong, store, value)
            self.assert_error("InvalidSession", value, first_wrong, store, [("put", 3), value, ("strike", 3)])
        self.assert_error("InvalidSession", (("put", 3),), first_wrong, store, (("put", 3),))
        self.assert_error("NoProgram", "strike", first_wrong, store, [("put", 3), ("strike", 3), ("put",)])
        self.assert_error("InvalidSession", ("put",), first_wrong, store, [("put", 3), ("put",), ("strike", 3)])
        self.assertEqual(len(store), 0)

    def test_by_words(self):
        rng = random.Random(94)
        seen = {}
        for _ in range(250):
            text = rng.choice([BOOK, "a 0..10", "rest c", "empty"])
            rows = rng.choice([{}, {"d": [3]}, {"d": [3], "e": [13]}])
            protocol = rng.choice([rules(*BARE), rules(*BARE), LOCKED])
            store = opened(protocol, text, rows=rows)
            sessions = []
            while len(sessions) < 2 + (protocol is not LOCKED and rng.random() < 0.1):
                asked = random_session(rng)
                if asked[0] in protocol.kinds() and (not is_change(asked) or fits(store.catalog, asked)):
                    sessions.append(asked)
            told = first_wrong(store, sessions)
            self.assertEqual(told, by_words(store, sessions), (text, rows, sessions))
            seen[told and len(told)] = True
        self.assertLessEqual({None, 1, 2, 3, 4}, set(seen))

    def test_many_sessions(self):
        # There are very many orders of their turns, but far less states.
        store = opened(plain_protocol(), BOOK, rows={"a": [3]})
        sessions = [("put", 3), ("strike", 3), ("read", 3), ("split", "a", 5, "d", "e"), ("direct", "d", 3)]
        self.assertIsNone(first_wrong(store, sessions))
        bare = opened(rules("read: look, view, read, end", "put: look, key, put, end"), BOOK)
        self.assertIsNone(first_wrong(bare, [*[("read", 3)] * 4, ("put", 3)]))


def random_session(rng):
    """A session of some kind, with the keys 3 and 13 and few parts."""
    key = rng.choice([3, 3, 13])
    return rng.choice([
        ("put", key), ("strike", key), ("read", key), ("direct", rng.choice("abcd"), key), ("take", rng.choice("ab")),
        ("hang", rng.choice("de"), rng.choice([(0, 5), (20, 30), (10, 20)])), ("split", "a", 5, "d", "e"),
        ("join", "a", "b", "d"),
    ])


if __name__ == "__main__":
    unittest.main()
