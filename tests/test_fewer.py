"""Tests of [101] to [105]: weavings that go wrong, struck down to one or two of their sessions."""

import inspect
import itertools
import random
import unittest

from hungparts import errors, fewer
from hungparts.changes import fits, is_change, roles
from hungparts.events import events
from hungparts.fewer import is_small, kept, starts, struck_down
from hungparts.protocols import plain_protocol
from hungparts.store import Store
from hungparts.weavings import last_attempts, ready, run
from tests.helper import BARE, Case, every_value, observed, opened, rules

BOOK = "a 0..10; b 10..20; rest c"
AGAIN = rules(
    "put: look, again, put, end", "strike: look, again, strike, end", "take: switch, wait, end", "hang: close",
    "split: move, switch, end", "direct: put, end",
)


def rows_of(store):
    """The rows of a store without sessions, as they are passed to a Store."""
    return {part: store.alive(part) for part in store.parts()}


class TestKept(Case):

    def setUp(self):
        self.store = opened(AGAIN, BOOK)
        self.weaving = [
            ("put", 3), ("take", "b"), 0, ("strike", 4), 2, 1, 0, 2, 0, ("direct", "b", 5), 3, 2, 0, 3, 1, 2, 0, 2, 0,
            1,
        ]

    def test_sessions_that_begin_anew(self):
        self.assertEqual(kept(self.store, self.weaving, [0, 1, 2, 3]), last_attempts(self.store, self.weaving))
        self.assertEqual(kept(self.store, self.weaving, [0]), [("put", 3), 0, 0, 0, 0])
        self.assertEqual(kept(self.store, self.weaving, [2]), [("strike", 4), 0, 0, 0])

    def test_all_some_and_none(self):
        self.assertEqual(kept(store=self.store, weaving=self.weaving, numbers=[1, 3]), [
            ("take", "b"), 0, ("direct", "b", 5), 1, 1, 0, 0])
        self.assertEqual(kept(self.store, self.weaving, [0, 2]), [
            ("put", 3), ("strike", 4), 0, 1, 0, 1, 0, 1, 0])
        self.assertEqual(kept(self.store, self.weaving, []), [])
        self.assertEqual(kept(self.store, [], []), [])

    def test_by_words(self):
        for many in range(5):
            for numbers in itertools.combinations(range(4), many):
                found, begun = [], 0
                for turn in last_attempts(self.store, self.weaving):
                    if isinstance(turn, tuple):
                        found += [turn] if begun in numbers else []
                        begun += 1
                    elif turn in numbers:
                        found.append(numbers.index(turn))
                self.assertEqual(kept(self.store, self.weaving, list(numbers)), found)

    def test_wrong_numbers(self):
        for value in ([1, 0], [0, 0], [0, 2, 1], [4], [0, 4], [-1], [-1, 0], [True], [0, True], [False, 1], (0, 1), (),
                {}, {0: 1}, "0", "", 0, None, [None], ["0"], [[0]], [0, 1, 2, 3, 4], [10 ** 20]):
            self.assert_error("InvalidNumber", value, kept, self.store, self.weaving, value)
        for value in every_value():
            if value not in ([], [0, 1], [0, 1, 2]):
                self.assert_error("InvalidNumber", value, kept, self.store, self.weaving, value)
        numbers = [0]
        self.assert_error("InvalidNumber", numbers, kept, self.store, [], numbers)

    def test_exceptions_in_their_order(self):
        for value in every_value():
            if not isinstance(value, Store):
                self.assert_error("InvalidStore", value, kept, value, None, None)
        begun = opened(AGAIN, BOOK, [("put", 3)])
        self.assert_error("InvalidStore", begun, kept, begun, None, None)
        self.assert_error("InvalidWeaving", None, kept, self.store, None, None)
        self.assert_error("InvalidSession", ("put",), kept, self.store, [("put",)], None)
        self.assert_error("NoProgram", "read", kept, self.store, [("read", 3)], None)
        self.assert_error("Ended", 0, kept, self.store, [("put", 3), 0, 0, 0, 0, 0], None)
        self.assert_error("InvalidNumber", None, kept, self.store, [("put", 3), 0, 0, 0, 0], None)

    def test_what_was_passed_stays_as_it_was(self):
        before, weaving, numbers = observed(self.store), list(self.weaving), [0, 1]
        kept(self.store, self.weaving, numbers).clear()
        self.assertEqual((observed(self.store), self.weaving, numbers), (before, weaving, [0, 1]))


class TestIsSmall(Case):

    def test_small_ones(self):
        protocol = rules(*BARE)
        self.assertIs(is_small(opened(protocol, BOOK), [("put", 3), ("take", "a"), 0, 0, 1, 0]), True)
        self.assertIs(is_small(opened(protocol, BOOK, rows={"a": [3]}), [("put", 3), 0, 0, 0]), True)
        self.assertIs(is_small(opened(protocol, BOOK, rows={"a": [3], "d": [3]}), [("put", 3), 0, 0, 0]), True)
        self.assertIs(is_small(opened(protocol, BOOK, rows={"d": [3], "e": [3]}), [("direct", "b", 5), 0, 0]), True)
        self.assertIs(is_small(opened(protocol, BOOK, rows={"c": [25], "a": []}), [("hang", "d", (20, 30)), 0]), True)
        self.assertIs(is_small(store=opened(protocol, BOOK), weaving=[("direct", "b", 3), ("put", 4), 0, 0]), True)

    def test_each_condition_alone(self):
        protocol = rules(*BARE)
        turns = [("put", 3), 0, 0, 0]
        self.assertIs(is_small(opened(protocol, BOOK, rows={"a": [3]}), turns), True)
        # A session in the store, three rows, and rows of two keys.
        begun = opened(protocol, BOOK, [("put", 3)], {"a": [3]})
        self.assertIs(is_small(begun, turns[1:]), False)
        self.assertIs(is_small(begun, [("put", 3), 1, 1, 1]), False)
        self.assertIs(is_small(opened(protocol, BOOK, rows={"a": [3], "d": [3], "e": [3]}), turns), False)
        self.assertIs(is_small(opened(protocol, BOOK, rows={"a": [3, 4]}), turns), False)
        self.assertIs(is_small(opened(protocol, BOOK, rows={"a": [3], "d": [4]}), turns), False)
        # A weaving that cannot be run, with three sessions, with two changes, and without an event.
        store = opened(protocol, BOOK, rows={"a": [3]})
        self.assertIs(is_small(store, [*turns, 0]), False)
        self.assertIs(is_small(store, [*turns, 1]), False)
        self.assertIs(is_small(store, [*turns, ("put",)]), False)
        alone = opened(rules("put: look, put, end"), BOOK, rows={"a": [3]})
        self.assertIs(is_small(alone, [*turns, ("read", 3)]), False)
        self.assertIs(is_small(store, [*turns, ("read", 3)]), True)
        self.assertIs(is_small(store, [*turns, ("read", 3), ("strike", 3)]), False)
        self.assertIs(is_small(store, [*turns, ("take", "a")]), True)
        self.assertIs(is_small(opened(protocol, BOOK), [("take", "a"), ("hang", "d", (20, 30)), 0, 1]), False)
        outside = opened(protocol, BOOK, rows={"c": [25]})
        self.assertIs(is_small(outside, [("hang", "d", (20, 30)), 0]), True)
        self.assertIs(is_small(outside, [("hang", "d", (20, 30)), 0, ("take", "a")]), False)
        self.assertIs(is_small(store, turns[:-1]), False)
        self.assertIs(is_small(store, []), False)

    def test_any_values(self):
        store = opened(rules(*BARE), BOOK, rows={"a": [3]})
        for value in [*every_value(), [("put", 3), "0"], [("put", 3), True], (("put", 3), 0, 0, 0)]:
            self.assertIs(is_small(store, value), False)
            self.assertIs(is_small(value, [("put", 3), 0, 0, 0]), False)
            self.assertIs(is_small(value, value), False)


def random_wrong(rng, most):
    """A store, and a weaving from it with an event."""
    lock = rng.choice(["", "lock table write, "])
    free = rules(
        f"put: look, {lock}again, {rng.choice(['key, put', 'put', 'claim'])}, end", "strike: look, again, strike, end",
        f"read: look, {lock}view, read, end", f"direct: {rng.choice(['', 'border, '])}claim, end", "hang: switch, end",
        "take: close", f"split: move, {rng.choice(['', 'lock table share, '])}switch, wait, end",
        "join: move, lock old alone, switch, end",
    )
    while True:
        protocol = rng.choice([rules(*BARE), AGAIN, free])
        text = rng.choice([BOOK, "a 0..10", "rest c", "a 0..10; rest c", "empty"])
        store = opened(protocol, text, rows=rng.choice([{}, {"d": [3]}, {"d": [3, 13], "e": [3]}]))
        weaving = random_weaving(rng, store, rng.randrange(2, most + 1))
        if events(store, weaving):
            return store, weaving


def random_weaving(rng, store, most):
    """A weaving with so many sessions, made at random."""
    behind, weaving = store.copy(), []
    for _ in range(8 * most):
        able = ready(behind)
        if able and (len(behind) == most or rng.random() < 0.7):
            turn = rng.choice(able)
            behind.step(turn)
        else:
            turn = random_session(rng, behind)
            if len(behind) == most or turn is None:
                continue
            behind.begin(turn)
        weaving.append(turn)
    return weaving


def random_session(rng, store):
    """A session that a store can begin, or None; a change fits."""
    key, names = rng.choice([3, 3, 13, 25]), rng.sample("abcde", 3)
    asked = rng.choice([
        ("put", key), ("strike", key), ("read", key), ("direct", names[0], key), ("take", names[0]),
        ("hang", names[0], rng.choice([(0, 5), (20, 30), (10, 20), (0, 10)])), ("split", names[0], 5, *names[1:]),
        ("join", *names),
    ])
    if asked[0] not in store.protocol.kinds() or is_change(asked) and not fits(store.catalog, asked):
        return None
    return asked


class TestStruckDown(Case):

    def assert_struck_down(self, store, weaving):
        """What is told has all that [104] promises."""
        start, few = struck_down(store, weaving)
        key = events(store, weaving)[0][2]
        self.assertIs(is_small(start, few), True)
        self.assertEqual(start.protocol, store.protocol)
        many = len([turn for turn in weaving if isinstance(turn, tuple)])
        choices = [[number] for number in range(many)] + [list(pair) for pair in itertools.combinations(range(many), 2)]
        self.assertIn(few, [kept(store, weaving, numbers) for numbers in choices])
        for part in start.parts():
            self.assertEqual(start.alive(part), [key])
        for asked in few:
            if isinstance(asked, tuple) and not is_change(asked):
                self.assertEqual(asked[-1], key)
        return start, few

    def test_each_kind_of_event(self):
        more = [("read", 13), ("put", 14), ("take", "b")]
        for kind, text, rows, turns in (
                ("outside", BOOK, {"c": [25, 35], "b": [13]}, [("hang", "d", (20, 30)), 3]),
                ("outside", BOOK, {"c": [25, 35], "b": [13]}, [("direct", "b", 3), 3, 3]),
                ("outside", BOOK, {"b": [13]}, [("direct", "c", 25), 3, ("hang", "d", (20, 30)), 4, 3]),
                ("twice", BOOK, {"a": [3, 4]}, [("put", 3), 3, 3, 3]),
                ("twice", BOOK, {"a": [4]}, [("put", 3), ("put", 3), 3, 4, 3, 4, 3, 4]),
                ("lost", BOOK, {"a": [4]}, [("split", "a", 5, "d", "e"), 3, ("put", 3), 4, 4, 4, 3]),
                ("lost", BOOK, {"a": [4]}, [("split", "a", 5, "d", "e"), 3, ("direct", "a", 3), 4, 4, 3]),
                ("missed", BOOK, {"a": [4, 3], "c": [33]}, [("put", 3), 3, ("take", "a"), 4, 3, 3]),
                ("astray", BOOK, {"a": [4, 3], "c": [33]}, [("strike", 3), 3, ("take", "a"), 4, 3, 3]),
                ("astray", "b 10..20", {}, [("strike", 30), 3, ("hang", "d", (30, 40)), 4, 3]),
                ("unseen", BOOK, {"a": [4, 3], "c": [33]}, [("read", 3), 3, ("take", "a"), 4, 3, 3, 3]),
                ("unseen", BOOK, {"d": [25]}, [("read", 25), 3, ("hang", "d", (20, 30)), 4, 3, 3, 3])):
            store, weaving = opened(rules(*BARE), text, rows=rows), [*more, *turns, 0, 1]
            self.assertEqual(events(store, weaving)[0][1], kind)
            self.assert_struck_down(store, weaving)

    def test_at_random(self):
        rng = random.Random(2)
        kinds = set()
        for _ in range(250):
            store, weaving = random_wrong(rng, 10)
            kinds.add(events(store, weaving)[0][1])
            start, few = self.assert_struck_down(store, weaving)
            sessions = [turn for turn in few if isinstance(turn, tuple)]
            self.assertLessEqual(len(sessions), 2)
        self.assertEqual(kinds, {"outside", "twice", "lost", "missed", "astray", "unseen"})

    def test_a_put_that_is_missed_and_then_not(self):
        # The part comes back, so the first event is one of the second change; with the first one it is a missed put.
        store = opened(rules(*BARE), "a 0..10", rows={})
        weaving = [("put", 3), 0, ("take", "a"), 1, ("hang", "a", (0, 5)), 2, ("put", 3), 3, 3, 3, 0, 0]
        self.assertEqual(events(store, weaving), [(11, "twice", 3, 0)])
        self.assert_struck_down(store, weaving)

    def test_attempts_that_were_given_up(self):
        store = opened(AGAIN, "a 0..10; rest c", rows={"c": [13]})
        weaving = [("put", 13), 0, ("take", "a"), 1, 0, 0, 1, 0, 0, 0, 1]
        self.assertEqual([event[1] for event in events(store, weaving)], ["twice"])
        start, few = self.assert_struck_down(store, weaving)
        self.assertEqual(few, [("put", 13), 0, 0, 0, 0])
        self.assertEqual(rows_of(start), {"c": [13]})

    def test_nothing_bad(self):
        store = opened(rules(*BARE), BOOK, rows={"a": [3]})
        for weaving in ([], [("put", 3), 0, 0], [("put", 4), 0, 0, 0, ("take", "b"), 1]):
            with self.assertRaises(errors.NothingBad):
                struck_down(store, weaving)
            with self.assertRaises(errors.NothingBad):
                struck_down(store=store, weaving=weaving)

    def test_exceptions_in_their_order(self):
        for value in every_value():
            if not isinstance(value, Store):
                self.assert_error("InvalidStore", value, struck_down, value, None)
        begun = opened(rules(*BARE), BOOK, [("put", 3)], {"a": [3]})
        self.assert_error("InvalidStore", begun, struck_down, begun, [0, 0, 0])
        store = opened(rules(*BARE), BOOK, rows={"a": [3]})
        self.assert_error("InvalidWeaving", (), struck_down, store, ())
        self.assert_error("InvalidNumber", 1, struck_down, store, [("put", 3), 1])
        self.assert_error("Ended", 0, struck_down, store, [("put", 3), 0, 0, 0, 0])

    def test_what_was_passed_stays_as_it_was(self):
        store, weaving = opened(rules(*BARE), BOOK, rows={"a": [3]}), [("put", 3), 0, 0, 0]
        before = observed(store)
        start, few = struck_down(store, weaving)
        start.begin(("put", 3))
        few.clear()
        self.assertEqual((observed(store), weaving), (before, [("put", 3), 0, 0, 0]))

    def test_what_stands_in_the_file(self):
        for name in ("kept", "is_small", "struck_down", "starts"):
            self.assertEqual(getattr(fewer, name).__module__, "hungparts.fewer")
        self.assertTrue(inspect.isgeneratorfunction(starts))


def told_starts(store, weaving, numbers):
    """The catalogs and rows of starts."""
    return [(str(start.catalog), rows_of(start)) for start in starts(store, weaving, numbers)]


class TestStarts(Case):

    def test_catalogs_and_rows_in_their_order(self):
        books = ["a 0..10", "d 5..10; e 0..5"]
        store = opened(rules(*BARE), "a 0..10", rows={"a": [3, 4]})
        turns = [("put", 3), ("split", "a", 5, "e", "d"), ("direct", "c", 4), 0, 0, 0, 1, 1]
        self.assertEqual(events(store, turns)[0][1:3], ("twice", 3))
        for numbers in ([], [0]):
            self.assertEqual(told_starts(store, turns, numbers), [
                (books[0], {}), (books[0], {"a": [3]}), (books[1], {}), (books[1], {"e": [3]})])
        self.assertEqual(told_starts(store, turns, [0, 1, 2]), [
            (books[0], {}), (books[0], {"a": [3]}), (books[0], {"c": [3]}), (books[0], {"d": [3]}),
            (books[0], {"e": [3]}), (books[0], {"a": [3], "c": [3]}), (books[0], {"a": [3], "d": [3]}),
            (books[0], {"a": [3], "e": [3]}),
            (books[1], {}), (books[1], {"e": [3]}), (books[1], {"c": [3]}), (books[1], {"c": [3], "e": [3]}),
        ])
        self.assertEqual(told_starts(store, turns, [1]), [
            (books[0], {}), (books[0], {"a": [3]}), (books[0], {"d": [3]}), (books[0], {"e": [3]}),
            (books[0], {"a": [3], "d": [3]}), (books[0], {"a": [3], "e": [3]}),
            (books[1], {}), (books[1], {"e": [3]}),
        ])

    def test_no_part_gets_the_key_and_catalogs_that_come_again(self):
        store = opened(rules(*BARE), "a 0..10", rows={"a": [3]})
        weaving = [
            ("take", "a"), 0, ("hang", "a", (0, 10)), 1, ("take", "a"), 2, ("direct", "d", 8), ("direct", "d", 8),
            ("hang", "e", (7, 9)), 5, ("put", 8), 6, ("take", "e"), 7, 6, 6]
        self.assertEqual(events(store, weaving)[0][1:3], ("missed", 8))
        self.assertEqual(told_starts(store, weaving, [3, 4, 5]), [
            ("a 0..10", {}), ("a 0..10", {"a": [8]}), ("a 0..10", {"d": [8]}), ("a 0..10", {"e": [8]}),
            ("a 0..10", {"a": [8], "d": [8]}), ("a 0..10", {"a": [8], "e": [8]}),
            ("empty", {}), ("empty", {"d": [8]}), ("empty", {"e": [8]}),
            ("e 7..9", {}), ("e 7..9", {"e": [8]}), ("e 7..9", {"d": [8]}), ("e 7..9", {"d": [8], "e": [8]}),
        ])

    def test_by_words(self):
        rng = random.Random(105)
        for _ in range(150):
            store, weaving = random_wrong(rng, 6)
            many = len([turn for turn in weaving if isinstance(turn, tuple)])
            numbers = sorted(rng.sample(range(many), rng.randrange(many + 1)))
            sessions = [turn for turn in kept(store, weaving, numbers) if isinstance(turn, tuple)]
            key = events(store, weaving)[0][2]
            books = []
            for index in range(len(weaving) + 1):
                book = run(store, weaving[:index])[0].catalog
                books += [] if book in books else [book]
            found = []
            for book in books:
                here = [book.part_of(key)] if book.part_of(key) else []
                parts = [asked[1] for asked in sessions if asked[0] == "direct"]
                parts += [part for asked in sessions if is_change(asked) for part in roles(asked)[1]]
                loose = [part for part in sorted(set(parts)) if part not in book]
                rows = [[], *[[part] for part in here], *[[part] for part in loose]]
                rows += [[*here, part] for part in loose if here]
                found += [(str(book), {part: [key] for part in parts}) for parts in rows]
            self.assertEqual(told_starts(store, weaving, numbers), found)

    def test_the_stores(self):
        store = opened(rules(*BARE), BOOK, rows={"a": [3]})
        for start in starts(store=store, weaving=[("put", 3), 0, 0, 0], numbers=[0]):
            self.assertEqual([start.protocol == store.protocol, len(start), start.edition], [True, 0, 0])

    def test_exceptions_in_their_order(self):
        def told(*args):
            return list(starts(*args))
        for value in every_value():
            if not isinstance(value, Store):
                self.assert_error("InvalidStore", value, told, value, None, None)
        begun = opened(rules(*BARE), BOOK, [("put", 3)], {"a": [3]})
        self.assert_error("InvalidStore", begun, told, begun, [0, 0, 0], None)
        store = opened(plain_protocol(), BOOK, rows={"a": [3]})
        self.assert_error("InvalidWeaving", None, told, store, None, None)
        self.assert_error("InvalidNumber", 2, told, store, [("put", 3), 2], None)
        with self.assertRaises(errors.NothingBad):
            told(store, [("put", 3)], None)
        bare = opened(rules(*BARE), BOOK, rows={"a": [3]})
        for value in (None, [1], [0, 0], [True], (0,), "0"):
            self.assert_error("InvalidNumber", value, told, bare, [("put", 3), 0, 0, 0], value)


if __name__ == "__main__":
    unittest.main()
