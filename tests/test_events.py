"""Tests of [91] to [93]: events of each kind, watches, and the events of weavings."""

import inspect
import random
import unittest

from hungparts import events as module
from hungparts.catalogs import read_catalog
from hungparts.changes import fits, is_change
from hungparts.events import Watch, events, now_wrong
from hungparts.protocols import plain_protocol
from hungparts.store import Store
from hungparts.weavings import ready, run
from tests.helper import BARE, NAMES, Case, events_by_words, every_value, observed, opened, rows_now, rules

BOOK = "a 0..10; b 10..20; rest c"


def watched(turns, rows=None, text=BOOK, protocol=None):
    """What each step of a weaving tells in a watch."""
    watch = Watch(opened(protocol or rules(*BARE), text, rows=rows))
    return [watch.begin(turn) if isinstance(turn, tuple) else watch.step(turn) for turn in turns]


class TestKindsOfEvents(unittest.TestCase):

    def assert_last(self, told, turns, rows=None, text=BOOK, protocol=None):
        """The last turn has these events, and no turn before it has any."""
        found = watched(turns, rows, text, protocol)
        self.assertEqual([item for item in found[:-1] if isinstance(item, list) and item], [])
        self.assertEqual(found[-1], told)

    def test_outside_by_a_direct(self):
        self.assert_last([("outside", 3, 0)], [("direct", "b", 3), 0, 0])
        self.assert_last([("outside", 3, 0)], [("direct", "c", 3), 0, 0])
        self.assert_last([("outside", 25, 0)], [("direct", "a", 25), 0, 0])
        self.assert_last([("outside", -1, 1)], [("take", "b"), ("direct", "a", -1), 0, 1, 1], text="a 0..9; b 10..20")
        # The row is alive only when the session is done.
        self.assert_last([], [("direct", "b", 3), 0])
        # The part that gets the key, and a part that does not belong to the catalog.
        self.assert_last([], [("direct", "a", 3), 0, 0])
        self.assert_last([], [("direct", "d", 3), 0, 0])

    def test_outside_by_a_hang(self):
        self.assert_last([("outside", 25, 0)], [("hang", "d", (20, 30)), 0], {"c": [25]})
        self.assert_last([], [("hang", "d", (30, 40)), 0], {"c": [25]})
        self.assert_last([("outside", 25, 0)], [("hang", "d", (30, 40)), 0], {"d": [25]})
        self.assert_last([], [("hang", "d", (20, 30)), 0], {"d": [25]})
        self.assert_last([], [("hang", "d", (20, 30)), 0], {"e": [5, 25]})

    def test_outside_and_twice_at_a_switch(self):
        protocol = rules("hang: switch, wait, end", "split: move, switch, end", "direct: put, end")
        told = [("outside", 21, 0), ("outside", 25, 0), ("twice", 25, 0)]
        turns = [("hang", "d", (20, 30)), 0]
        self.assert_last(told, turns, {"c": [25, 21], "d": [25]}, protocol=protocol)
        # They do not come again at the end.
        self.assertEqual(watched([*turns, 0, 0], {"c": [25, 21], "d": [25]}, protocol=protocol)[1:], [told, [], []])
        turns = [("split", "a", 5, "d", "e"), 0, ("direct", "d", 7), 1, 1, ("direct", "d", 3), 2, 2, 0]
        told = [("outside", 7, 0), ("twice", 3, 0)]
        self.assert_last(told, turns, {"a": [3]}, protocol=protocol)

    def test_outside_in_the_order_of_the_keys(self):
        told = [("outside", key, 0) for key in (-35, -25, 2, 25, 30)]
        rows = {"c": [30, -25], "d": [2, 25, -35, 45]}
        self.assert_last(told, [("hang", "d", (40, 50)), 0], {"d": [25, 2, -35, 30, -25]})
        self.assertEqual(watched([("hang", "d", (20, 50)), 0], rows)[1], [
            ("outside", -35, 0), ("outside", 2, 0), ("outside", 30, 0)])

    def test_outside_that_lasts(self):
        turns = [("direct", "b", 3), ("direct", "c", 3), ("direct", "c", 4), 0, 0, 1, 1, 2, 2]
        found = watched(turns)
        self.assertEqual(found[3:], [[], [("outside", 3, 0)], [], [("twice", 3, 1)], [], [("outside", 4, 2)]])

    def test_outside_that_ends_and_comes_again(self):
        turns = [("direct", "b", 3), 0, 0, ("take", "b"), 1, ("hang", "b", (10, 20)), 2, ("take", "b"), 3,
            ("hang", "b", (10, 20)), 4]
        found = watched(turns)
        self.assertEqual([found[at] for at in (2, 4, 6, 8, 10)], [
            [("outside", 3, 0)], [], [("outside", 3, 2)], [], [("outside", 3, 4)]])

    def test_outside_that_passes_from_part_to_part(self):
        # By one and the same step, a part with such a row leaves and another one comes in: there is such a row still.
        protocol = rules("split: move, close", "direct: put, end")
        turns = [("split", "a", 5, "d", "e"), 0, ("direct", "a", 13), 1, 1, ("direct", "e", 13), 2, 2, 0]
        found = watched(turns, protocol=protocol)
        self.assertEqual([found[at] for at in (4, 7, 8)], [[("outside", 13, 1)], [], [("lost", 13, 0)]])

    def test_twice(self):
        self.assert_last([("twice", 3, 0)], [("put", 3), 0, 0, 0], {"a": [3]})
        self.assert_last([("twice", 3, 1)], [("put", 3), ("put", 3), 0, 1, 0, 1, 0, 1])
        self.assert_last([("twice", 3, 0)], [("put", 3), ("put", 3), 0, 1, 0, 1, 1, 0])
        self.assert_last([("twice", 25, 0)], [("direct", "c", 25), 0, 0], {"c": [25]})
        # Before the end, with another key, and beside a row in a part that does not belong to the catalog.
        self.assert_last([], [("put", 3), 0, 0], {"a": [3]})
        self.assert_last([], [("put", 3), 0, 0, 0], {"a": [4]})
        self.assert_last([], [("put", 3), 0, 0, 0], {"d": [3]})

    def test_twice_in_two_parts(self):
        # One of the two rows is outside, too.
        self.assert_last([("outside", 3, 0), ("twice", 3, 0)], [("direct", "b", 3), 0, 0], {"a": [3]})
        self.assert_last([("outside", 25, 0), ("twice", 25, 0)], [("hang", "d", (20, 30)), 0], {"c": [25], "d": [25]})

    def test_two_kinds_and_several_keys_at_one_step(self):
        turns = [("hang", "d", (20, 40)), 0]
        rows = {"c": [35, 21, 30, 99], "d": [30, 22, 35, 5], "a": [5]}
        self.assert_last([
            ("outside", 5, 0), ("outside", 21, 0), ("outside", 30, 0), ("outside", 35, 0),
            ("twice", 5, 0), ("twice", 30, 0), ("twice", 35, 0),
        ], turns, rows)

    def test_twice_that_lasts_ends_and_comes_again(self):
        turns = [("put", 3)] * 6 + [("strike", 3), ("strike", 3)]
        turns += [0, 0, 0, 1, 1, 1, 2, 2, 2, 6, 6, 6, 3, 3, 3, 4, 4, 4, 7, 7, 7, 5, 5, 5]
        found = watched(turns)
        ends = [found[at] for at in (10, 13, 16, 19, 22, 25, 28, 31)]
        self.assertEqual(ends, [[], [("twice", 3, 1)], [], [], [], [("twice", 3, 4)], [], []])

    def test_rows_of_sessions_that_are_not_settled(self):
        # What a session has struck is alive until it is done, and what it has moved until it switches.
        self.assert_last([("twice", 3, 1)], [("strike", 3), ("put", 3), 0, 0, 1, 1, 1], {"a": [3]})
        self.assert_last([], [("strike", 3), ("put", 3), 0, 0, 0, 1, 1, 1], {"a": [3]})
        protocol = rules(*BARE[:-2], "split: move, switch, end")
        self.assert_last([("lost", 4, 0)], [
            ("split", "a", 5, "d", "e"), 0, ("put", 4), 1, 1, 1, 0], {"a": [3]}, protocol=protocol)

    def test_lost(self):
        split = ("split", "a", 5, "d", "e")
        self.assert_last([("lost", 3, 0)], [split, ("put", 3), 1, 0, 1, 1, 0])
        self.assert_last([("lost", 7, 0)], [split, ("direct", "a", 7), 0, 1, 1, 0], {"a": [3]})
        # Done before the move, or not yet done at the switch.
        self.assert_last([], [split, ("put", 3), 1, 1, 1, 0, 0])
        self.assert_last([], [split, ("direct", "a", 7), 0, 1, 0, 1])
        # Not moved since it is struck by a session that is done.
        self.assert_last([], [split, ("strike", 3), 1, 1, 1, 0, 0], {"a": [3]})

    def test_lost_at_a_close_and_in_two_parts(self):
        join = ("join", "a", "b", "d")
        turns = [join, *[("direct", part, key) for part, key in (("b", 15), ("a", 7), ("a", 3))], 0]
        self.assert_last([("lost", 3, 0), ("lost", 7, 0), ("lost", 15, 0)], [*turns, 1, 1, 2, 2, 3, 3, 0], {"a": [8]})
        # The same key in both parts is one event.
        turns = [join, ("direct", "b", 15), ("direct", "a", 15), 0, 1, 1, 2, 2, 0]
        self.assertEqual([found for found in watched(turns)[4:] if found], [
            [("outside", 15, 2), ("twice", 15, 2)], [("lost", 15, 0)]])

    def test_a_part_that_is_taken_out_keeps_its_rows(self):
        self.assert_last([], [("take", "a"), 0], {"a": [3]})

    def test_missed(self):
        put, take = ("put", 3), ("take", "a")
        self.assert_last([("missed", 3, 0)], [put, take, 0, 0, 1, 0])
        self.assert_last([("missed", 3, 0)], [put, take, 0, 1, 0, 0])
        self.assert_last([], [put, take, 0, 1, 0])
        # Done before the part goes, and a part that has come back.
        self.assert_last([], [put, take, 0, 0, 0, 1])
        self.assert_last([], [put, take, 0, 0, 1, ("hang", "a", (0, 4)), 2, 0])
        self.assert_last([("missed", 3, 0)], [put, take, 0, 0, 1, ("hang", "d", (0, 4)), 2, 0])
        # The key goes to another part while the old one stays.
        self.assert_last([("outside", 25, 0), ("missed", 25, 0)], [("put", 25), 0, ("hang", "d", (20, 30)), 1, 0, 0])
        # A put that is refused, and a direct, are never missed.
        self.assert_last([], [("put", 3), 0, 0], text="b 10..20")
        self.assert_last([], [("direct", "a", 3), 0, take, 1, 0])
        # By the end of another session nothing is missed.
        self.assert_last([], [put, ("read", 3), take, 0, 0, 2, 1, 1, 1, 1])

    def test_missed_and_twice_at_one_step(self):
        turns = [("put", 25), 0, 0, ("hang", "d", (20, 30)), 1, 0]
        rows = {"d": [25]}
        self.assert_last([("outside", 25, 0), ("twice", 25, 0), ("missed", 25, 0)], turns, rows)

    def test_astray(self):
        strike, take = ("strike", 3), ("take", "a")
        self.assert_last([("astray", 3, 0)], [strike, take, 0, 1, 0], {"a": [3]})
        self.assert_last([("astray", 3, 0)], [strike, take, 0, 1, 0])
        # The strike step alone has this event, not the end.
        self.assert_last([], [strike, take, 0, 0, 1, 0])
        self.assert_last([], [strike, take, 1, 0, 0], {"a": [3]})
        self.assert_last([], [strike, take, 0, 1, ("hang", "a", (3, 4)), 2, 0])

    def test_astray_with_none(self):
        strike = ("strike", 3)
        self.assert_last([("astray", 3, 0)], [strike, 0, ("hang", "d", (3, 4)), 1, 0], text="b 10..20")
        self.assert_last([], [strike, 0, ("hang", "d", (4, 5)), 1, 0], text="b 10..20")
        self.assert_last([], [strike, 0, 0], text="b 10..20")
        self.assert_last([("astray", 3, 0)], [strike, 0, ("take", "a"), 1, 0], text="a 0..10")

    def test_unseen_that_tells_more(self):
        read, take = ("read", 3), ("take", "a")
        self.assert_last([("unseen", 3, 0)], [read, take, 0, 1, 0, 0], {"a": [3]})
        self.assert_last([("unseen", 3, 0)], [read, take, 0, 1, 0, 0], {"a": [3]}, text="a 0..10")
        # The same number in another part, and a change behind the view.
        self.assert_last([], [read, take, 0, 1, 0, 0], {"a": [4]})
        self.assert_last([], [read, take, 0, 0, 1, 0], {"a": [3]})
        # Only the read step has this event.
        self.assert_last([], [read, take, 0, 1, 0], {"a": [3]})

    def test_unseen_that_tells_less(self):
        turns = [("read", 3), 0, ("hang", "d", (3, 4)), 1, 0, 0]
        self.assert_last([("unseen", 3, 0)], turns, {"d": [3]}, text="b 10..20")
        self.assert_last([], [("read", 3), 0, ("hang", "d", (3, 5)), 1, 0, 0], {"d": [4]}, text="b 10..20")
        # One row here, and one there.
        turns = [("read", 3), 0, ("take", "a"), 1, ("hang", "d", (3, 4)), 2, 0, 0]
        self.assert_last([], turns, {"a": [3], "d": [3]})
        self.assert_last([("unseen", 3, 0)], turns, {"d": [3]})
        self.assert_last([("unseen", 3, 0)], turns, {"a": [3]})
        # A view ahead of the look.
        protocol = rules("read: view, look, read, end", "hang: close")
        turns = [("read", 3), 0, ("hang", "d", (3, 4)), 1, 0, 0]
        self.assert_last([("unseen", 3, 0)], turns, {"d": [3]}, "empty", protocol)

    def test_steps_that_are_refused_or_begin_anew(self):
        protocol = rules("put: look, again, claim, end", "take: close", "direct: border, claim, end")
        self.assert_last([], [("put", 3), ("take", "a"), 0, 1, 0], protocol=protocol)
        self.assert_last([], [("put", 3), 0, 0, 0], {"a": [3]}, protocol=protocol)
        self.assert_last([], [("direct", "b", 3), 0], {"a": [3]}, protocol=protocol)


class TestWatch(Case):

    def test_what_stands_in_the_file(self):
        for name in ("events", "now_wrong", "first_wrong"):
            self.assertEqual(getattr(module, name).__module__, "hungparts.events")
        for name in ("watched", "begin", "step", "events", "ready", "copy", "state"):
            self.assertIn(name, vars(Watch))
        self.assertEqual(list(inspect.signature(Watch).parameters), ["store"])

    def test_no_stores(self):
        for value in every_value():
            if not isinstance(value, Store):
                self.assert_error("InvalidStore", value, Watch, value)
        self.assert_error("InvalidStore", None, Watch, store=None)

    def test_the_given_store_stays_as_it_was(self):
        store = opened(rules(*BARE), BOOK, [("put", 3)], {"a": [3]})
        before = observed(store), store.state()
        watch = Watch(store=store)
        self.assertEqual([watch.step(number=0) for _ in range(3)], [[], [], [("twice", 3, 0)]])
        self.assertEqual(watch.begin(asked=("take", "a")), 1)
        self.assertEqual((observed(store), store.state()), before)
        store.step(0)
        self.assertEqual(watch.watched().outcome(0), "done")

    def test_what_was_watched_is_another_copy(self):
        watch = Watch(opened(rules(*BARE), BOOK, [("put", 3)]))
        watch.step(0)
        here = watch.watched()
        self.assertEqual(here.at_hand(0), "a")
        here.step(0)
        self.assertEqual(watch.watched().versions("a"), [])
        self.assertEqual(watch.step(0), [])
        self.assertEqual(watch.watched().versions("a"), [(3, 0, None)])

    def test_a_store_that_is_wrong_when_the_watch_is_made(self):
        store = opened(rules(*BARE), BOOK, [("direct", "b", 3), ("direct", "b", 3), ("direct", "b", 4)])
        for number in (0, 0, 1, 1, 2):
            store.step(number)
        self.assertEqual(now_wrong(store), [("outside", 3), ("twice", 3)])
        watch = Watch(store)
        self.assertEqual(watch.events(), [])
        self.assertEqual(watch.step(2), [("outside", 4, 2)])
        watch.begin(("take", "b"))
        self.assertEqual(watch.step(3), [])
        watch.begin(("hang", "b", (10, 20)))
        self.assertEqual(watch.step(4), [("outside", 3, 4), ("outside", 4, 4), ("twice", 3, 4)])
        self.assertEqual(watch.events(), [("outside", 4, 2), ("outside", 3, 4), ("outside", 4, 4), ("twice", 3, 4)])

    def test_copies_go_on_by_themselves(self):
        watch = Watch(opened(rules(*BARE), BOOK, [("direct", "b", 3)]))
        watch.step(0)
        other = watch.copy()
        self.assertEqual(other.state(), watch.state())
        self.assertEqual(watch.step(0), [("outside", 3, 0)])
        self.assertEqual([other.events(), other.ready(), watch.ready()], [[], [0], []])
        third = watch.copy()
        self.assertEqual(third.begin(("take", "b")), 1)
        self.assertEqual(third.step(1), [])
        self.assertEqual([third.events(), watch.events()], [[("outside", 3, 0)]] * 2)
        self.assertEqual(len(watch.watched()), 1)
        self.assertEqual(other.step(0), [("outside", 3, 0)])

    def test_lists_that_were_told_may_be_changed(self):
        watch = Watch(opened(rules(*BARE), BOOK, [("direct", "b", 3), ("put", 3)]))
        watch.step(0)
        watch.step(0).clear()
        watch.events().append("more")
        watch.ready().clear()
        self.assertEqual([watch.events(), watch.ready()], [[("outside", 3, 0)], [1]])

    def test_steps_that_are_refused_change_nothing(self):
        protocol = rules("put: look, lock table write, put, end", "take: lock table alone, close")
        watch = Watch(opened(protocol, BOOK, [("put", 3), ("take", "a"), ("put", 4)]))
        for number in (0, 0, 2, 2, 2, 2):
            watch.step(number)
        before = observed(watch.watched()), watch.state(), watch.events()
        for value in [value for value in every_value() if not isinstance(value, int)] + [True, False, -1, 3, 10 ** 20]:
            self.assert_error("InvalidNumber", value, watch.step, value)
        self.assert_error("Ended", 2, watch.step, 2)
        self.assert_error("Waiting", 1, watch.step, 1)
        for value in every_value():
            self.assert_error("InvalidSession", value, watch.begin, value)
        self.assert_error("NoProgram", "read", watch.begin, ("read", 3))
        self.assertEqual((observed(watch.watched()), watch.state(), watch.events()), before)

    def test_ready(self):
        protocol = rules("put: look, lock table write, put, end", "take: lock table alone, close")
        watch = Watch(opened(protocol, BOOK, [("put", 3), ("take", "a"), ("put", 4)]))
        self.assertEqual(watch.ready(), [0, 1, 2])
        watch.step(1)
        self.assertEqual(watch.ready(), [0, 1, 2])
        watch.step(0)
        self.assertEqual(watch.ready(), [1, 2])
        watch.step(1)
        self.assertEqual(watch.ready(), [0, 2])

    def test_equal_states_return_the_same_from_then_on(self):
        # Two orders that come to the same, with events and without: what is outside lasts in both.
        rows = {"a": [3], "d": [3]}
        one = Watch(opened(rules(*BARE), BOOK, [("hang", "d", (20, 30)), ("read", 3)], rows))
        other = one.copy()
        for watch, order in ((one, [0, 1, 1, 1, 1]), (other, [1, 0, 1, 1, 1])):
            for number in order:
                watch.step(number)
        behind = Watch(one.watched())
        self.assertEqual(one.state(), behind.state())
        for watch in (one, behind):
            self.assertEqual(watch.begin(("put", 3)), 2)
            self.assertEqual([watch.step(2) for _ in range(3)], [[], [], []])
        self.assertEqual([len(one.events()), len(behind.events())], [2, 0])
        self.assertNotEqual(one.state(), other.state())

    def test_states_at_random(self):
        rng = random.Random(5)
        for _ in range(150):
            watch = Watch(random_store(rng))
            for _ in range(25):
                random_turn(rng, watch)
            # A watch over the same store has an equal state, so it goes on in the same way.
            other = Watch(watch.watched())
            self.assertEqual(other.state(), watch.state())
            for _ in range(10):
                turn = random_turn(rng, watch)
                if isinstance(turn, tuple):
                    other.begin(turn)
                else:
                    other.step(turn)
                self.assertEqual(other.state(), watch.state())
            self.assertEqual(watch.events()[len(watch.events()) - len(other.events()):], other.events())


def random_store(rng):
    """A store with one of several catalogs and a few rows."""
    text = rng.choice([BOOK, "a 0..10; b 10..20", "rest c", "a ..", "a 0..5; b 5..10; rest c"])
    catalog = read_catalog(text)
    rows = {}
    for _ in range(rng.randrange(6)):
        part, key = rng.choice("abcde"), rng.choice([3, 7, 13])
        if part not in catalog or catalog.part_of(key) == part:
            rows[part] = sorted({*rows.get(part, []), key})
    held = rules(*BARE[:5], "take: lock table read, close", *BARE[6:7], "join: move, lock table read, close")
    protocol = rng.choice([plain_protocol(), rules(*BARE), rules(*BARE), held])
    return Store(protocol, catalog, rows)


def random_session(rng, catalog):
    """A session of some kind, with few keys and parts; most changes fit."""
    key, names = rng.choice([3, 3, 7, 13]), rng.sample("abcde", 3)
    span = rng.choice([(0, 10), (3, 4), (10, 20), (0, 5), (5, 10)])
    asked = rng.choice([
        ("put", key), ("strike", key), ("read", key), ("read", key), ("direct", names[0], key),
        ("hang", names[0], span), ("take", names[0]), ("split", names[0], rng.choice([5, 10]), *names[1:]),
        ("join", *names),
    ])
    if is_change(asked) and not fits(catalog, asked) and rng.random() < 0.9:
        return random_session(rng, catalog)
    return asked


def random_turn(rng, watch):
    """Make a turn in a watch at random, and return it."""
    able = watch.ready()
    if able and (len(able) > 3 or rng.random() < 0.6):
        number = rng.choice(able)
        watch.step(number)
        return number
    asked = random_session(rng, watch.watched().catalog)
    watch.begin(asked)
    return asked


class TestEventsByWords(unittest.TestCase):

    def test_at_random(self):
        rng = random.Random(91)
        found = set()
        for _ in range(400):
            watch = Watch(random_store(rng))
            for _ in range(40):
                before, known = watch.watched(), len(watch.events())
                turn = random_turn(rng, watch)
                told = watch.events()[known:]
                words = [] if isinstance(turn, tuple) else events_by_words(before, watch.watched(), turn)
                self.assertEqual(told, words)
                found.update((event[0], len(told)) for event in told)
        kinds = {"outside", "twice", "lost", "missed", "astray", "unseen"}
        self.assertEqual({kind for kind, many in found if many == 1}, kinds)
        self.assertLessEqual({"outside", "twice"}, {kind for kind, many in found if many > 1})


class TestEventsOfWeavings(Case):

    def test_indexes_of_the_turns(self):
        store = opened(rules(*BARE), BOOK, rows={"a": [3]})
        weaving = [("put", 3), 0, 0, ("take", "a"), 1, 0, ("direct", "b", 3), 2, 2, ("strike", 5), 3, 3]
        self.assertEqual(events(store, weaving), [(5, "missed", 3, 0), (8, "outside", 3, 2)])
        self.assertEqual(events(store=store, weaving=weaving[:8]), [(5, "missed", 3, 0)])
        self.assertEqual(events(store, []), [])

    def test_several_events_at_one_turn(self):
        store = opened(rules(*BARE), BOOK, rows={"c": [25, 21], "d": [25]})
        self.assertEqual(events(store, [("hang", "d", (20, 30)), 0]), [
            (1, "outside", 21, 0), (1, "outside", 25, 0), (1, "twice", 25, 0)])

    def test_a_store_with_sessions_of_its_own(self):
        store = opened(rules(*BARE), BOOK, [("put", 3)], {"a": [3]})
        store.step(0)
        before = observed(store)
        self.assertEqual(events(store, [0, 0]), [(1, "twice", 3, 0)])
        self.assertEqual(events(store, [("put", 3), 1, 1, 1, 0, 0]), [(3, "twice", 3, 1)])
        self.assertEqual(observed(store), before)

    def test_lists_that_were_passed_and_told(self):
        store = opened(rules(*BARE), BOOK)
        weaving = [("direct", "b", 3), 0, 0]
        events(store, weaving).clear()
        self.assertEqual(events(store, weaving), [(2, "outside", 3, 0)])
        self.assertEqual(weaving, [("direct", "b", 3), 0, 0])

    def test_exceptions_of_run(self):
        store = opened(rules("put: look, lock table alone, put, end"), BOOK)
        for value in every_value():
            if not isinstance(value, Store):
                self.assert_error("InvalidStore", value, events, value, None)
        for value in every_value():
            if not isinstance(value, list) or value and not all(
                    isinstance(item, tuple) or isinstance(item, int) and not isinstance(item, bool) for item in value):
                self.assert_error("InvalidWeaving", value, events, store, value)
        for value in ([True], [None], [("put", 3), "0"], (("put", 3),)):
            self.assert_error("InvalidWeaving", value, events, store, value)
        self.assert_error("InvalidSession", ("put",), events, store, [("put", 3), 0, ("put",), 7])
        self.assert_error("NoProgram", "take", events, store, [("put", 3), 0, ("take", "a"), 7])
        self.assert_error("InvalidNumber", 1, events, store, [("put", 3), 1])
        self.assert_error("InvalidNumber", -1, events, store, [("put", 3), -1])
        self.assert_error("Ended", 0, events, store, [("put", 3), 0, 0, 0, 0, 0])
        self.assert_error("Waiting", 1, events, store, [("put", 3), ("put", 3), 0, 0, 1, 1])

    def test_as_run_and_a_watch_tell(self):
        rng = random.Random(93)
        for _ in range(100):
            start = random_store(rng)
            watch = Watch(start)
            weaving, told = [], []
            for _ in range(30):
                before = len(watch.events())
                turn = random_turn(rng, watch)
                told += [(len(weaving), *event) for event in watch.events()[before:]]
                weaving.append(turn)
            self.assertEqual(events(start, weaving), told)
            self.assertEqual(run(start, weaving)[0].state(), watch.state())
            self.assertEqual(ready(watch.watched()), watch.ready())


class TestNowWrong(Case):

    def test_stores_as_they_are_made(self):
        for rows in (None, {}, {"a": [3, 5]}, {"a": [3], "d": [3], "e": [3, 25], "c": [25]}):
            self.assertEqual(now_wrong(opened(rules(*BARE), BOOK, rows=rows)), [])

    def test_stores_that_are_wrong(self):
        store = opened(rules(*BARE), BOOK, rows={"c": [35, 21, 30, 99], "d": [30, 22, 35, 5], "a": [5]})
        behind, _ = run(store, [("hang", "d", (20, 40)), 0])
        told = [*[("outside", key) for key in (5, 21, 30, 35)], *[("twice", key) for key in (5, 30, 35)]]
        self.assertEqual(now_wrong(store=behind), told)
        self.assertEqual(now_wrong(run(behind, [("take", "d"), 1])[0]), [])
        now_wrong(behind).clear()
        self.assertEqual(now_wrong(behind), told)

    def test_rows_that_are_not_settled(self):
        store = opened(rules(*BARE), BOOK, [("direct", "b", 3)])
        store.step(0)
        self.assertEqual(now_wrong(store), [])
        store.step(0)
        self.assertEqual(now_wrong(store), [("outside", 3)])

    def test_by_words(self):
        rng = random.Random(94)
        for _ in range(200):
            watch = Watch(random_store(rng))
            for _ in range(25):
                random_turn(rng, watch)
            store = watch.watched()
            rows = rows_now(store)
            keys = [key for _, key in rows]
            told = [("outside", key) for key in sorted(set(keys)) if [
                part for part, other in rows if other == key and part != store.catalog.part_of(key)]]
            told += [("twice", key) for key in sorted(set(keys)) if keys.count(key) > 1]
            self.assertEqual(now_wrong(store), told)

    def test_no_stores(self):
        for value in [*every_value(), *NAMES, Watch(opened(rules(*BARE), BOOK))]:
            if not isinstance(value, Store):
                self.assert_error("InvalidStore", value, now_wrong, value)


if __name__ == "__main__":
    unittest.main()
