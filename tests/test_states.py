"""Tests of [77]: copies of stores, and the states by which stores are told apart."""

import itertools
import unittest

from hungparts.catalogs import read_catalog
from hungparts.protocols import plain_protocol
from hungparts.store import Store
from tests.helper import Case, observed, rules

BOOK = "a 0..10; b 10..20; rest c"
SESSIONS = [
    ("put", 4), ("strike", 3), ("read", 3), ("direct", "x", 3), ("hang", "y", (20, None)), ("take", "b"),
    ("split", "a", 5, "v", "w"), ("join", "a", "b", "u"),
]


def opened(protocol, sessions, rows=None):
    """A store in which some sessions have begun."""
    store = Store(protocol, read_catalog(BOOK), rows)
    for asked in sessions:
        store.begin(asked)
    return store


def behind(store, turns):
    """The copy of a store behind the next steps of some sessions."""
    other = store.copy()
    for number in turns:
        other.step(number)
    return other


def finished(store):
    """The copy of a store in which the sessions have gone on, the least number first, until none can go on."""
    other = store.copy()
    able = [number for number in other.running() if other.can(number)]
    while able:
        other.step(able[0])
        able = [number for number in other.running() if other.can(number)]
    return other


def depth(value):
    """How deep tuples are nested."""
    return 1 + max([depth(item) for item in value], default=0) if isinstance(value, tuple) else 0


class TestCopies(Case):

    def test_a_copy_is_the_same(self):
        store = opened(plain_protocol(), SESSIONS, {"a": [3], "x": [9]})
        for number in (3, 0, 2, 1, 0, 3, 1, 0, 1):
            self.check_copy(store)
            store.step(number)
        self.check_copy(finished(store))

    def check_copy(self, store):
        """A copy tells the same and has an equal state, and it is another one."""
        other = store.copy()
        self.assertIs(type(other), Store)
        self.assertIsNot(other, store)
        self.assertEqual(observed(other), observed(store))
        self.assertEqual(other.state(), store.state())
        self.assertEqual(other.protocol, store.protocol)
        for part in store.parts():
            self.assertEqual(other.versions(part), store.versions(part))

    def test_copies_go_on_by_themselves(self):
        store = opened(plain_protocol(), SESSIONS, {"a": [3, 8], "b": [13]})
        for number in (3, 0, 2, 1):
            store.step(number)
        before, state = observed(store), store.state()
        other = store.copy()
        self.assertEqual([other.begin(("put", 5)), other.begin(("take", "c"))], [8, 9])
        ended = finished(other)
        self.assertEqual((observed(store), store.state()), (before, state))
        self.assertNotEqual(observed(ended), before)
        self.assertEqual(len(store), 8)
        after = observed(other), other.state()
        store.begin(("read", 9))
        while [number for number in store.running() if store.can(number)]:
            store.step([number for number in store.running() if store.can(number)][0])
        self.assertEqual((observed(other), other.state()), after)

    def test_a_step_of_a_copy_changes_nothing_that_was_told(self):
        store = opened(plain_protocol(), [("put", 4)])
        store.step(0)
        store.step(0)
        locks, other = store.locks(0), store.copy()
        other.step(0)
        other.step(0)
        other.step(0)
        self.assertEqual([store.locks(0), locks], [[("table", "write")], [("table", "write")]])
        self.assertEqual([store.parts(), other.parts(), store.settled(), other.settled()], [[], ["a"], [], [0]])


class TestStates(Case):

    def check_state(self, value):
        """A state consists of tuples, strings, integers and None alone."""
        self.assertIn(type(value), (tuple, str, int, type(None)))
        if isinstance(value, tuple):
            for item in value:
                self.check_state(item)

    def test_what_states_consist_of(self):
        store = opened(plain_protocol(), SESSIONS, {"a": [3, 8], "b": [13], "x": [99]})
        while [number for number in store.running() if store.can(number)]:
            state = store.state()
            self.assertIs(type(state), tuple)
            self.check_state(state)
            self.assertLess(depth(state), 7)
            self.assertEqual(hash(state), hash(store.copy().state()))
            store.step([number for number in store.running() if store.can(number)][-1])
        self.check_state(store.state())
        self.check_state(Store(rules(), read_catalog("empty")).state())

    def test_orders_of_turns_that_come_to_the_same(self):
        protocol = rules(
            "put: look, put, end", "strike: look, lock part read, strike, end", "read: look, view, read, end",
            "direct: put, end",
        )
        store = opened(protocol, [("put", 4), ("strike", 13), ("read", 3), ("direct", "x", 3)], {"a": [3], "b": [13]})
        turns = [0, 0, 0, 1, 1, 1, 1, 2, 2, 2, 2, 3, 3]
        expected = behind(store, turns).state()
        for order in itertools.permutations(range(4)):
            self.assertEqual(behind(store, sorted(turns, key=order.index)).state(), expected)
        mixed = [2, 0, 1, 3, 1, 0, 2, 1, 3, 0, 2, 1, 2]
        self.assertEqual(behind(store, mixed).state(), expected)
        for many in range(len(turns)):
            for order in ([0, 1, 2, 3], [3, 2, 1, 0]):
                self.assertEqual(
                    behind(store, sorted(turns[:many], key=order.index)).state(), behind(store, turns[:many]).state())

    def test_locks_that_were_taken_in_another_order(self):
        lines = ["put: lock table read, lock table write, look, put, end", "strike: look, lock part read, strike, end"]
        one = opened(rules(*lines), [("put", 4), ("strike", 3)])
        self.assertEqual(behind(one, [0, 0, 1, 1]).state(), behind(one, [1, 1, 0, 0]).state())
        self.assertEqual(behind(one, [0, 1, 0, 1]).state(), behind(one, [1, 0, 1, 0]).state())

    def test_rows_that_came_in_another_order(self):
        store = opened(rules("direct: put, end"), [("direct", "x", 3), ("direct", "x", 4), ("direct", "y", 3)])
        states = [behind(store, order).state() for order in itertools.permutations([0, 1, 2])]
        self.assertEqual(len(set(states)), 1)
        one = Store(plain_protocol(), read_catalog(BOOK), {"a": [1, 2], "b": [11]})
        other = Store(plain_protocol(), read_catalog(BOOK), {"b": [11], "a": [2, 1], "c": []})
        self.assertEqual(one.state(), other.state())

    def test_a_view_of_other_rows(self):
        store = opened(rules("put: look, put, end", "read: look, view, read, end"), [("put", 4), ("read", 3)],
            {"a": [3]})
        self.assertEqual(behind(store, [0, 0, 0, 1, 1]).state(), behind(store, [1, 1, 0, 0, 0]).state())

        store = opened(rules("put: look, put, end", "read: look, view, read, end"), [("put", 13), ("read", 3)],
            {"a": [3]})
        self.assertEqual(behind(store, [0, 0, 0, 1, 1]).state(), behind(store, [1, 1, 0, 0, 0]).state())

    def test_a_view_does_not_matter_behind_the_read(self):
        store = opened(rules("direct: put, end", "read: look, view, read, end"), [("direct", "x", 3), ("read", 3)])
        self.assertEqual(behind(store, [0, 0, 1, 1, 1]).state(), behind(store, [1, 1, 1, 0, 0]).state())
        self.assertEqual(behind(store, [0, 0, 1, 1, 1, 1]).state(), behind(store, [1, 1, 1, 1, 0, 0]).state())

    def test_attempts_that_were_given_up_do_not_matter(self):
        lines = ["read: look, lock table read, view, again, read, end", "take: close"]
        store = opened(rules(*lines), [("read", 3), ("take", "b")], {"a": [3]})
        self.assertEqual(behind(store, [0, 0, 0, 1, 0]).state(), behind(store, [1]).state())
        self.assertEqual(behind(store, [0, 0, 0, 1, 0, 0]).state(), behind(store, [1, 0]).state())

    def test_what_a_session_remembers_does_not_matter_when_it_has_ended(self):
        lines = ["strike: look, strike, end", "put: look, claim, end", "take: close"]
        store = opened(rules(*lines), [("strike", 13), ("put", 13), ("take", "a")], {"b": [13]})
        self.assertEqual(behind(store, [1, 1, 0, 2, 0, 0]).state(), behind(store, [2, 0, 1, 1, 0, 0]).state())

    def test_a_look_at_an_older_catalog(self):
        lines = ["take: close", "hang: close", "strike: look, again, strike, end"]
        sessions = [("take", "a"), ("hang", "y", (30, 40)), ("strike", 13)]
        store = opened(rules(*lines), sessions)
        self.assertEqual(behind(store, [2, 0, 1]).state(), behind(store, [0, 2, 1]).state())
        self.assertNotEqual(behind(store, [0, 1, 2]).state(), behind(store, [0, 2, 1]).state())

    def test_each_step_gives_another_state(self):
        for order in ([0, 1, 2, 3, 4], [4, 3, 2, 1, 0], [2, 4, 0, 1, 3]):
            store = opened(plain_protocol(), [SESSIONS[number] for number in order], {"a": [3]})
            states = [store.state()]
            while [number for number in store.running() if store.can(number)]:
                store.step([number for number in store.running() if store.can(number)][0])
                states.append(store.state())
            self.assertEqual(len(set(states)), len(states))

    def test_each_beginning_gives_another_state(self):
        store = Store(plain_protocol(), read_catalog(BOOK))
        states = [store.state()]
        for asked in SESSIONS:
            store.begin(asked)
            states.append(store.state())
        for one, other in itertools.permutations(SESSIONS, 2):
            states.append(opened(plain_protocol(), [one, other]).state())
        self.assertEqual(len(set(states)), 1 + 8 + 55)

    def test_stores_that_differ_in_catalog_edition_or_rows(self):
        protocol = rules("take: close", "hang: close")
        made = [
            Store(protocol, read_catalog(text), rows) for text, rows in [
                ("empty", None), ("rest a", None), ("a ..", None), ("a 0..", None), ("a ..; rest b", None), ("b ..",
                    None),
                ("a ..0; b 0..", None), ("a ..0; rest b", None), ("empty", {"a": [1]}), ("empty", {"b": [1]}),
                ("empty", {"a": [2]}), ("empty", {"a": [1, 2]}), ("empty", {"a": [1], "b": [1]}), ("a ..", {"a": [1]}),
            ]
        ]
        self.assertEqual(len({store.state() for store in made}), len(made))
        store = opened(protocol, [("take", "b"), ("hang", "b", (10, 20)), ("take", "zz"), ("take", "zy")])
        changed = behind(store, [0, 1])
        self.assertEqual([str(changed.catalog), changed.edition], [BOOK, 2])
        self.assertNotEqual(changed.state(), store.state())


if __name__ == "__main__":
    unittest.main()
