"""Tests of [74] to [76]: what each step does, when it waits and is refused, and which sessions are settled."""

import itertools
import unittest

from hungparts.catalogs import read_catalog
from hungparts.store import Store
from hungparts.strengths import standard
from tests.helper import Case, observed, rules

BOOK = "a 0..10; b 10..20; rest c"
MODES = ["read", "write", "share", "alone"]
# Programs without locks, by which single steps can be tried.
PUT = "put: look, put, end"
CLAIM = "put: look, claim, end"
STRIKE = "strike: look, strike, end"
READ = "read: look, view, read, end"
DIRECT = "direct: put, end"
HANG = "hang: switch, end"
TAKE = "take: switch, end"
SPLIT = "split: move, switch, end"
JOIN = "join: move, switch, end"


def opened(lines, sessions, rows=None, text=BOOK):
    """A store in which some sessions have begun."""
    store = Store(rules(*lines), read_catalog(text), rows)
    for asked in sessions:
        store.begin(asked)
    return store


def go(store, *numbers):
    """What the next steps of some sessions return, one after the other."""
    return [store.step(number) for number in numbers]


class StepCase(Case):

    def assert_waits(self, store, number, others):
        """The next step of a session waits for other ones, and cannot be done."""
        self.assertEqual(store.waits_for(number), others)
        self.assertIs(store.can(number), False)
        before = observed(store), store.state()
        self.assert_error("Waiting", number, store.step, number)
        self.assertEqual((observed(store), store.state()), before)

    def assert_ready(self, store, number):
        """The next step of a session waits for none."""
        self.assertEqual(store.waits_for(number), [])
        self.assertIs(store.can(number), True)


class TestTurns(StepCase):

    def test_what_steps_return(self):
        store = opened([CLAIM, TAKE], [("put", 3), ("put", 3), ("take", "a")])
        self.assertEqual(go(store, 0, 0, 0), ["on", "on", "done"])
        self.assertEqual(go(store, 1, 1), ["on", "refused"])
        self.assertEqual(go(store, 2, 2), ["on", "done"])

    def test_sessions_that_have_ended(self):
        store = opened([CLAIM, TAKE], [("put", 3), ("put", 3)])
        go(store, 0, 0, 0, 1, 1)
        before = observed(store), store.state()
        for number in (0, 1):
            self.assert_error("Ended", number, store.step, number)
            self.assert_error("Ended", number, store.waits_for, number)
            self.assertIs(store.can(number), False)
        self.assertEqual((observed(store), store.state()), before)

    def test_the_order_of_the_exceptions(self):
        store = opened(["put: look, lock table alone, put, end"], [("put", 3), ("put", 4), ("put", 5)])
        go(store, 0, 0, 1, 2)
        for value in (-1, 3, True, None, "0"):
            self.assert_error("InvalidNumber", value, store.step, value)
            self.assert_error("InvalidNumber", value, store.waits_for, value)
            self.assert_error("InvalidNumber", value, store.can, value)
        self.assert_waits(store, 1, [0])
        go(store, 0, 0)
        self.assert_error("Ended", 0, store.step, 0)
        self.assert_ready(store, 1)
        go(store, 1)
        self.assert_waits(store, 2, [1])

    def test_waiting_for_several_sessions(self):
        lines = ["put: look, lock table read, put, end", "take: lock table alone, close"]
        store = opened(lines, [("put", 1), ("take", "a"), ("put", 2), ("put", 3)])
        go(store, 3, 3, 0, 0, 2)
        self.assert_waits(store, 1, [0, 3])
        go(store, 2)
        self.assert_waits(store, 1, [0, 2, 3])
        go(store, 0, 0, 2, 2, 3, 3)
        self.assert_ready(store, 1)

    def test_the_first_step_of_a_change_behind_another_change(self):
        for line, asked in [
            ("hang: lock table read, switch, wait, end", ("hang", "x", (30, 40))),
            ("split: move, switch, wait, end", ("split", "b", 15, "x", "y")),
            ("join: lock rest read, move, switch, wait, end", ("join", "b", "d", "x")),
        ]:
            store = opened([line, "take: lock rest read, switch, end"], [asked, ("take", "a")], {}, BOOK.replace(
                "; rest", "; d 20..30; rest"))
            self.assert_ready(store, 0)
            self.assert_ready(store, 1)
            go(store, 1)
            self.assert_waits(store, 0, [1])
            go(store, 1)
            self.assert_waits(store, 0, [1])
            go(store, 1)
            self.assert_ready(store, 0)
            self.assertEqual(go(store, 0), ["on"])

    def test_later_steps_of_changes_and_other_sessions_do_not_wait_for_changes(self):
        store = opened([PUT, TAKE], [("take", "a"), ("take", "b"), ("put", 3)])
        self.assertEqual(go(store, 0, 2, 0, 2, 1, 2, 1), ["on", "on", "done", "on", "on", "done", "done"])

    def test_changes_that_have_done_no_step_and_that_were_refused(self):
        store = opened([TAKE], [("take", "a"), ("take", "a"), ("take", "b")])
        go(store, 0, 0)
        self.assertEqual(go(store, 1), ["refused"])
        self.assert_ready(store, 2)
        store = opened([TAKE], [("take", "a"), ("take", "b"), ("take", "a")])
        go(store, 2)
        self.assert_waits(store, 0, [2])
        self.assert_waits(store, 1, [2])

    def test_the_first_step_waits_for_locks_as_well(self):
        lines = ["put: look, lock table read, put, end", "take: lock table alone, switch, wait, end", HANG]
        store = opened(lines, [("take", "a"), ("put", 3), ("hang", "x", (20, 30))])
        go(store, 1, 1, 2)
        self.assert_waits(store, 0, [1, 2])
        go(store, 2)
        self.assert_waits(store, 0, [1])
        go(store, 1, 1)
        self.assert_ready(store, 0)

    def test_large_numbers_come_behind_small_ones(self):
        lines = ["put: look, lock table read, put, end", "take: lock table alone, close"]
        store = opened(lines, [("put", key) for key in range(17)] + [("take", "a")])
        go(store, 16, 16, 8, 8, 1, 1)
        self.assert_waits(store, 17, [1, 8, 16])

    def test_a_session_for_two_reasons_comes_once(self):
        lines = ["hang: lock table alone, switch, end", "take: lock table alone, switch, end"]
        store = opened(lines, [("take", "a"), ("hang", "x", (20, 30))])
        go(store, 0)
        self.assert_waits(store, 1, [0])

    def test_a_change_that_does_not_fit_waits_for_other_changes_all_the_same(self):
        store = opened([SPLIT, TAKE], [("take", "a"), ("split", "z", 5, "x", "y")])
        go(store, 0)
        self.assert_waits(store, 1, [0])
        go(store, 0)
        self.assertEqual(go(store, 1), ["refused"])


class TestLook(StepCase):

    def test_the_part_at_hand(self):
        sessions = [("put", 3), ("strike", 10), ("read", 25)]
        store = opened([PUT, STRIKE, READ], sessions)
        go(store, 0, 1, 2)
        self.assertEqual([store.at_hand(number) for number in range(3)], ["a", "b", "c"])
        store = opened([PUT, STRIKE, READ], sessions, {}, "b 10..20")
        go(store, 0, 1, 2)
        self.assertEqual([store.at_hand(number) for number in range(3)], [None, "b", None])

    def test_the_current_catalog_counts(self):
        store = opened([PUT, TAKE], [("put", 3), ("put", 3), ("take", "a")])
        go(store, 0, 2, 1, 2)
        self.assertEqual([store.at_hand(0), store.at_hand(1)], ["a", "c"])


class TestLock(StepCase):

    def test_the_table(self):
        for held, mode in itertools.product(MODES, repeat=2):
            lines = [f"put: look, lock table {held}, put, end", f"strike: look, lock table {mode}, strike, end"]
            store = opened(lines, [("strike", 13), ("put", 3)])
            go(store, 0, 1, 1)
            self.check_lock(store, held, mode, ("table", mode))

    def check_lock(self, store, held, mode, lock):
        """Session 0 waits for the lock of session 1 if their modes clash, until session 1 has ended."""
        if standard().clash(held, mode):
            self.assert_waits(store, 0, [1])
            go(store, 1)
            self.assert_waits(store, 0, [1])
            go(store, 1)
        self.assert_ready(store, 0)
        self.assertEqual(go(store, 0), ["on"])
        self.assertEqual(store.locks(0), [lock])

    def test_the_part_at_hand(self):
        for held, mode in itertools.product(MODES, repeat=2):
            lines = [f"put: look, lock part {held}, put, end", f"strike: look, lock part {mode}, strike, end"]
            store = opened(lines, [("strike", 5), ("put", 3)])
            go(store, 0, 1, 1)
            self.check_lock(store, held, mode, ("a", mode))
            store = opened(lines, [("strike", 15), ("put", 3)])
            go(store, 0, 1, 1, 0)
            self.assertEqual([store.locks(0), store.locks(1)], [[("b", mode)], [("a", held)]])

    def test_the_part_of_a_direct(self):
        lines = ["put: look, lock part alone, put, end", "direct: lock part read, put, end"]
        store = opened(lines, [("direct", "a", 3), ("direct", "b", 3), ("direct", "x", 3), ("put", 3)])
        go(store, 3, 3)
        self.assert_waits(store, 0, [3])
        go(store, 1, 2)
        self.assertEqual([store.locks(1), store.locks(2)], [[("b", "read")], [("x", "read")]])

    def test_no_part_at_hand(self):
        lines = ["put: look, lock part alone, lock part alone, put, end"]
        store = opened(lines, [("put", 3), ("put", 3)], {}, "b 10..20")
        self.assertEqual(go(store, 0, 0, 1, 1, 1, 0), ["on"] * 6)
        self.assertEqual([store.locks(0), store.locks(1)], [[], []])

    def test_old_and_new_parts(self):
        hold = "direct: lock part read, put, end"
        held = ["a", "b", "c", "x", "y"]
        for line, asked, things in [
            ("take: lock old alone, close", ("take", "b"), "b"),
            ("hang: lock new alone, close", ("hang", "x", (20, 30)), "x"),
            ("split: lock old alone, move, close", ("split", "a", 5, "x", "y"), "a"),
            ("split: lock new alone, move, close", ("split", "a", 5, "y", "x"), "xy"),
            ("join: lock old alone, move, close", ("join", "a", "b", "x"), "ab"),
            ("join: lock new alone, move, close", ("join", "a", "b", "x"), "x"),
            ("take: lock rest alone, close", ("take", "b"), "c"),
            ("hang: lock rest alone, close", ("hang", "x", (20, 30)), "c"),
        ]:
            store = opened([line, hold], [asked, *[("direct", part, 3) for part in held]])
            go(store, 1, 2, 3, 4, 5)
            self.assert_waits(store, 0, [1 + held.index(thing) for thing in sorted(things)])
            for thing in things:
                go(store, 1 + held.index(thing), 1 + held.index(thing))
            self.assertEqual(go(store, 0), ["on"])
            self.assertEqual(store.locks(0), [(thing, "alone") for thing in sorted(things)])

    def test_the_rest_part_of_the_current_catalog(self):
        lines = ["take: lock rest alone, close", "direct: lock part alone, put, end"]
        store = opened(lines, [("take", "a"), ("direct", "a", 3)], {}, "a 0..10")
        self.assertEqual(go(store, 1, 0), ["on", "on"])
        self.assertEqual(store.locks(0), [])

    def test_own_locks_do_not_clash(self):
        lines = ["take: lock table alone, lock old alone, lock table alone, lock table share, lock old read, close"]
        store = opened(lines, [("take", "a")])
        self.assertEqual(go(store, 0, 0, 0, 0, 0), ["on"] * 5)
        expected = [("a", "alone"), ("a", "read"), ("table", "alone"), ("table", "share")]
        self.assertEqual(store.locks(0), expected)
        self.assertEqual(go(store, 0), ["done"])
        self.assertEqual([store.locks(0), store.holders("table"), store.holders("a")], [[], [], []])

    def test_a_part_and_the_table_are_different_things(self):
        lines = ["put: look, lock part alone, put, end", "strike: look, lock table alone, strike, end"]
        store = opened(lines, [("put", 3), ("strike", 3)])
        self.assertEqual(go(store, 0, 0, 1, 1), ["on"] * 4)

    def test_a_lock_is_held_until_the_end(self):
        lines = ["put: look, lock table alone, claim, lock part alone, end"]
        store = opened(lines, [("put", 3), ("put", 3)])
        go(store, 0, 1, 0, 0, 0)
        self.assert_waits(store, 1, [0])
        self.assertEqual(store.locks(0), [("a", "alone"), ("table", "alone")])
        self.assertEqual(go(store, 0), ["done"])
        self.assertEqual(go(store, 1), ["on"])
        self.assertEqual(store.locks(1), [("table", "alone")])
        self.assertEqual(go(store, 1), ["refused"])
        self.assertEqual([store.locks(1), store.holders("table"), store.alive("a")], [[], [], [3]])

    def test_the_part_at_hand_counts_and_not_that_of_the_current_catalog(self):
        lines = ["put: look, lock part read, put, end", TAKE]
        store = opened(lines, [("put", 3), ("take", "a")])
        go(store, 0, 1, 1, 0)
        self.assertEqual(store.locks(0), [("a", "read")])


class TestAgain(StepCase):

    LINES = ["put: look, lock table read, lock part read, again, put, end", TAKE, HANG]

    def test_the_same_catalog(self):
        store = opened(self.LINES, [("put", 3)])
        self.assertEqual(go(store, 0, 0, 0, 0), ["on"] * 4)
        self.assertEqual([store.at_hand(0), len(store.locks(0))], ["a", 2])

    def test_another_catalog(self):
        store = opened(self.LINES, [("put", 3), ("take", "b")])
        go(store, 0, 0, 0, 1, 1)
        self.assertEqual(len(store.locks(0)), 2)
        self.assertEqual(go(store, 0), ["anew"])
        self.assertEqual([store.locks(0), store.at_hand(0), store.outcome(0)], [[], None, "running"])
        self.assertEqual([store.next_step(0), store.running(), store.holders("table")], [("look",), [0], []])
        self.assertEqual(go(store, 0, 0, 0, 0, 0, 0), ["on"] * 5 + ["done"])

    def test_a_catalog_that_has_changed_and_changed_back(self):
        store = opened(self.LINES, [("put", 3), ("take", "b"), ("hang", "b", (10, 20))])
        go(store, 0, 0, 0, 1, 1, 2, 2)
        self.assertEqual([str(store.catalog), store.edition], [BOOK, 2])
        self.assertEqual(go(store, 0), ["anew"])

    def test_beginning_anew_more_than_once(self):
        store = opened(["put: look, again, again, put, end", TAKE], [("put", 3), ("take", "a"), ("take", "b")])
        self.assertEqual(go(store, 0, 1, 0, 0, 0), ["on", "on", "anew", "on", "on"])
        self.assertEqual(go(store, 1, 2, 0, 0, 0, 0, 0), ["done", "on", "anew", "on", "on", "on", "on"])
        self.assertEqual([store.at_hand(0), store.alive("c")], ["c", []])
        self.assertEqual(go(store, 0), ["done"])
        self.assertEqual([store.alive("c"), store.alive("a")], [[3], []])

    def test_a_change_before_the_look(self):
        store = opened(self.LINES, [("put", 3), ("take", "b")])
        self.assertEqual(go(store, 1, 0, 0, 0, 1, 0), ["on", "on", "on", "on", "done", "on"])

    def test_a_read_has_no_view_any_more(self):
        store = opened(["read: look, view, again, read, end", TAKE], [("read", 3), ("take", "a")], {"a": [3]})
        go(store, 0, 0, 1)
        self.assertEqual(store.due(0), 1)
        self.assertEqual(go(store, 0), ["anew"])
        self.assertEqual([store.due(0), store.told(0), store.at_hand(0)], [None, None, None])
        self.assertEqual(go(store, 0, 0, 0, 0), ["on"] * 4)
        self.assertEqual([store.due(0), store.told(0), store.at_hand(0)], [0, 0, "c"])

    def test_others_need_not_wait_for_the_locks_that_were_given_back(self):
        lines = ["put: look, lock table alone, again, put, end", "strike: look, lock table alone, strike, end", TAKE]
        store = opened(lines, [("put", 3), ("strike", 3), ("take", "b")])
        go(store, 0, 0, 1, 2, 2)
        self.assert_waits(store, 1, [0])
        self.assertEqual(go(store, 0), ["anew"])
        self.assert_ready(store, 1)


class TestBorder(StepCase):

    def test_parts_of_the_catalog(self):
        for part, key, result in [
            ("a", 3, "on"), ("a", 0, "on"), ("a", 10, "refused"), ("b", 3, "refused"), ("b", 10, "on"), ("c", 20, "on"),
            ("c", 3, "refused"), ("c", -1, "on"), ("x", 3, "on"), ("x", 25, "on"),
        ]:
            store = opened(["direct: border, put, end"], [("direct", part, key)])
            self.assertEqual(go(store, 0), [result])
            self.assertEqual(store.at_hand(0), part)

    def test_the_current_catalog_counts(self):
        store = opened(["direct: border, put, end", TAKE, HANG], [("direct", "a", 15), ("take", "a")])
        self.assertEqual(go(store, 1, 0), ["on", "on"])
        store = opened(["direct: border, put, end", HANG], [("direct", "x", 15), ("hang", "x", (20, 30))])
        self.assertEqual(go(store, 1, 0), ["on", "refused"])

    def test_no_border(self):
        store = opened([DIRECT], [("direct", "a", 15)])
        self.assertEqual(go(store, 0, 0), ["on", "done"])
        self.assertEqual([store.alive("a"), store.versions("a")], [[15], [(15, 0, None)]])


class TestKey(StepCase):

    LINES = [
        "put: look, key, put, end", STRIKE, SPLIT, "direct: key, put, end",
    ]

    def test_a_key_that_is_there_and_one_that_is_not(self):
        for key, part, result in [(3, "a", "refused"), (4, "a", "on"), (3, "x", "on"), (5, "x", "refused")]:
            store = opened(self.LINES, [("direct", part, key)], {"a": [3], "x": [5]})
            self.assertEqual(go(store, 0), [result])
        store = opened(self.LINES, [("put", 3), ("put", 4)], {"a": [3]})
        self.assertEqual(go(store, 0, 0, 1, 1), ["on", "refused", "on", "on"])

    def test_a_put_that_is_not_settled(self):
        store = opened(self.LINES, [("put", 3), ("put", 3), ("put", 4), ("direct", "b", 3)])
        go(store, 0, 0, 1, 1, 2, 3)
        for number in (0, 1):
            self.assert_ready(store, number)
        go(store, 1)
        self.assertEqual(go(store, 0, 2, 2, 3, 3), ["on", "on", "on", "on", "done"])
        store = opened(self.LINES, [("put", 3), ("put", 3)])
        go(store, 0, 0, 0, 1)
        self.assert_waits(store, 1, [0])
        go(store, 0)
        self.assertEqual(go(store, 1), ["refused"])

    def test_a_strike_that_is_not_settled(self):
        store = opened(self.LINES, [("put", 3), ("strike", 3)], {"a": [3]})
        go(store, 0, 1, 1)
        self.assert_waits(store, 0, [1])
        go(store, 1)
        self.assertEqual(go(store, 0), ["on"])

    def test_a_move_that_is_not_settled(self):
        store = opened(self.LINES, [("put", 3), ("split", "a", 5, "x", "y"), ("direct", "x", 3)], {"a": [3]})
        go(store, 0, 1)
        self.assert_waits(store, 0, [1])
        self.assert_waits(store, 2, [1])
        go(store, 1)
        self.assertEqual(go(store, 0, 2), ["on", "refused"])

    def test_no_part_at_hand(self):
        store = opened(self.LINES, [("put", 3), ("put", 3)], {}, "b 10..20")
        self.assertEqual(go(store, 0, 0, 1, 1), ["on"] * 4)
        self.assertEqual(go(store, 0, 1), ["refused", "refused"])

    def test_key_does_not_take_anything(self):
        store = opened(self.LINES, [("put", 3), ("put", 3)])
        self.assertEqual(go(store, 0, 0, 1, 1, 0, 1, 0, 1), ["on"] * 6 + ["done", "done"])
        self.assertEqual(store.alive("a"), [3, 3])


class TestPutAndClaim(StepCase):

    def test_put(self):
        store = opened([PUT], [("put", 3), ("put", 3)], {"a": [3]})
        self.assertEqual(go(store, 0, 0), ["on", "on"])
        self.assertEqual([store.alive("a"), store.versions("a")], [[3], [(3, None, None), (3, 0, None)]])
        self.assertEqual(go(store, 0), ["done"])
        self.assertEqual(store.alive("a"), [3, 3])
        self.assertEqual(go(store, 1, 1, 1), ["on", "on", "done"])
        self.assertEqual(store.alive("a"), [3, 3, 3])

    def test_put_into_the_part_at_hand(self):
        store = opened([PUT, TAKE], [("put", 3), ("take", "a")])
        self.assertEqual(go(store, 0, 1, 1, 0, 0), ["on", "on", "done", "on", "done"])
        self.assertEqual([store.alive("a"), store.alive("c"), store.parts()], [[3], [], ["a"]])

    def test_no_part_at_hand(self):
        for line in (PUT, CLAIM):
            store = opened([line], [("put", 3)], {}, "b 10..20")
            self.assertEqual(go(store, 0, 0), ["on", "refused"])
            self.assertEqual([store.parts(), store.at_hand(0), store.outcome(0)], [[], None, "refused"])

    def test_claim(self):
        store = opened([CLAIM], [("put", 3), ("put", 4), ("put", 4)], {"a": [3]})
        self.assertEqual(go(store, 0, 0, 1, 1), ["on", "refused", "on", "on"])
        self.assertEqual(store.versions("a"), [(3, None, None), (4, 1, None)])
        go(store, 2)
        self.assert_waits(store, 2, [1])
        go(store, 1)
        self.assertEqual(go(store, 2), ["refused"])
        self.assertEqual(store.alive("a"), [3, 4])

    def test_claim_waits_for_strikes_and_moves(self):
        store = opened([CLAIM, STRIKE], [("put", 3), ("strike", 3)], {"a": [3]})
        go(store, 0, 1, 1)
        self.assert_waits(store, 0, [1])
        go(store, 1)
        self.assertEqual(go(store, 0, 0), ["on", "done"])
        self.assertEqual([store.alive("a"), store.versions("a")], [[3], [(3, None, 1), (3, 0, None)]])
        store = opened(["direct: claim, end", SPLIT], [("direct", "x", 3), ("split", "a", 5, "x", "y")], {"a": [3]})
        go(store, 1)
        self.assert_waits(store, 0, [1])
        go(store, 1)
        self.assertEqual(go(store, 0), ["refused"])

    def test_claim_of_a_direct(self):
        store = opened(["direct: claim, end"], [("direct", "x", 3), ("direct", "y", 3), ("direct", "x", 3)], {"y": [3]})
        self.assertEqual(go(store, 0, 1), ["on", "refused"])
        self.assert_waits(store, 2, [0])

    def test_a_session_that_is_refused_is_not_settled_and_leaves_nothing(self):
        store = opened(["put: look, lock part alone, claim, end"], [("put", 3), ("put", 3)], {"a": [3]})
        before = store.versions("a")
        self.assertEqual(go(store, 0, 0), ["on", "on"])
        go(store, 1)
        self.assert_waits(store, 1, [0])
        self.assertEqual(go(store, 0), ["refused"])
        self.assertEqual([store.versions("a"), store.locks(0), store.settled()], [before, [], []])
        self.assert_ready(store, 1)


class TestStrike(StepCase):

    def test_what_it_tells(self):
        rows = {"a": [3, 4], "b": [13]}
        for key, told in [(3, 1), (5, 0), (13, 1), (25, 0)]:
            store = opened([STRIKE], [("strike", key)], rows)
            self.assertEqual(go(store, 0), ["on"])
            self.assertIsNone(store.told(0))
            self.assertEqual(go(store, 0), ["on"])
            self.assertEqual([store.told(0), store.due(0)], [told, None])
            self.assertEqual(go(store, 0), ["done"])
            self.assertEqual([store.told(0), store.due(0)], [told, None])
            self.assertEqual(store.alive("a"), [row for row in [3, 4] if row != key])

    def test_rows_that_are_there_twice(self):
        store = opened([PUT, STRIKE], [("put", 3), ("strike", 3)], {"a": [3]})
        go(store, 0, 0, 0, 1, 1, 1)
        self.assertEqual([store.told(1), store.alive("a")], [2, []])

    def test_no_part_at_hand(self):
        store = opened([STRIKE], [("strike", 3)], {"a": [3]}, "b 10..20")
        self.assertEqual(go(store, 0, 0, 0), ["on", "on", "done"])
        self.assertEqual([store.told(0), store.alive("a")], [0, [3]])

    def test_the_rows_are_alive_until_it_is_done(self):
        store = opened([STRIKE], [("strike", 3)], {"a": [3]})
        go(store, 0, 0)
        self.assertEqual([store.alive("a"), store.versions("a")], [[3], [(3, None, 0)]])
        go(store, 0)
        self.assertEqual([store.alive("a"), store.versions("a")], [[], [(3, None, 0)]])

    def test_it_waits_for_other_strikes_and_moves(self):
        store = opened([STRIKE], [("strike", 3), ("strike", 3), ("strike", 4)], {"a": [3, 4]})
        go(store, 0, 0, 1, 2)
        self.assert_waits(store, 1, [0])
        self.assert_ready(store, 2)
        go(store, 0, 1)
        self.assertEqual(store.told(1), 0)
        store = opened([STRIKE, SPLIT], [("strike", 3), ("split", "a", 5, "x", "y")], {"a": [3]})
        go(store, 0, 1)
        self.assert_waits(store, 0, [1])
        go(store, 1, 0)
        self.assertEqual(store.told(0), 0)

    def test_it_does_not_wait_for_puts(self):
        store = opened([PUT, STRIKE], [("put", 3), ("strike", 3)])
        self.assertEqual(go(store, 0, 0, 1, 1, 0, 1), ["on", "on", "on", "on", "done", "done"])
        self.assertEqual([store.told(1), store.alive("a")], [0, [3]])


class TestViewAndRead(StepCase):

    def test_what_is_due_and_told(self):
        for rows, told in [({"a": [3]}, 1), ({"a": [4]}, 0), ({"x": [3]}, 0), ({}, 0)]:
            store = opened([READ], [("read", 3)], rows)
            go(store, 0)
            self.assertEqual([store.due(0), store.told(0)], [None, None])
            go(store, 0)
            self.assertEqual([store.due(0), store.told(0)], [told, None])
            go(store, 0)
            self.assertEqual([store.due(0), store.told(0)], [told, told])
            self.assertEqual(go(store, 0), ["done"])
            self.assertEqual([store.due(0), store.told(0)], [told, told])

    def test_no_part(self):
        store = opened([READ], [("read", 3)], {"a": [3]}, "b 10..20")
        go(store, 0, 0, 0)
        self.assertEqual([store.due(0), store.told(0)], [0, 0])

    def test_rows_that_are_there_twice(self):
        store = opened([PUT, READ], [("put", 3), ("read", 3)], {"a": [3]})
        go(store, 0, 0, 0, 1, 1, 1)
        self.assertEqual([store.due(1), store.told(1)], [2, 2])

    def test_a_view_that_is_older_than_a_put(self):
        for turns, told in [((1, 1, 0, 0, 0, 1), 0), ((1, 0, 0, 1, 0, 1), 0), ((0, 0, 1, 0, 1, 1), 1)]:
            store = opened([PUT, READ], [("put", 3), ("read", 3)])
            go(store, *turns)
            self.assertEqual([store.due(1), store.told(1), store.outcome(0)], [told, told, "done"])

    def test_a_view_that_is_older_than_a_strike(self):
        for turns, told in [((1, 1, 0, 0, 0, 1), 1), ((1, 0, 0, 1, 0, 1), 1), ((0, 0, 1, 0, 1, 1), 0)]:
            store = opened([STRIKE, READ], [("strike", 3), ("read", 3)], {"a": [3]})
            go(store, *turns)
            self.assertEqual([store.due(1), store.told(1), store.outcome(0)], [told, told, "done"])

    def test_a_view_that_is_older_than_a_strike_and_a_put(self):
        store = opened([STRIKE, PUT, READ], [("strike", 3), ("read", 3), ("put", 3)], {"a": [3]})
        go(store, 1, 1, 0, 0, 0, 2, 2, 2, 1)
        self.assertEqual([store.told(1), store.alive("a")], [1, [3]])
        store = opened([STRIKE, PUT, READ], [("put", 3), ("read", 3), ("strike", 3)])
        go(store, 0, 0, 0, 1, 1, 2, 2, 2, 1)
        self.assertEqual([store.told(1), store.alive("a")], [1, []])

    def test_a_view_that_is_older_than_a_move(self):
        lines = ["read: view, look, read, end", SPLIT]
        store = opened(lines, [("read", 3), ("split", "a", 5, "x", "y")], {"a": [3]})
        go(store, 0, 0, 1, 1, 0)
        self.assertEqual([store.due(0), store.told(0), store.at_hand(0)], [1, 1, "a"])
        store = opened(lines, [("read", 3), ("split", "a", 5, "x", "y")], {"a": [3]})
        go(store, 0, 1, 1, 0, 0)
        self.assertEqual([store.due(0), store.told(0), store.at_hand(0)], [1, 0, "x"])
        store = opened(lines, [("read", 3), ("split", "a", 5, "x", "y")], {"a": [3]})
        go(store, 1, 1, 0, 0, 0)
        self.assertEqual([store.due(0), store.told(0), store.at_hand(0)], [1, 1, "x"])

    def test_a_view_behind_a_move_with_an_older_part_at_hand(self):
        store = opened([READ, SPLIT], [("read", 3), ("split", "a", 5, "x", "y")], {"a": [3]})
        go(store, 0, 1, 1, 0, 0)
        self.assertEqual([store.due(0), store.told(0), store.at_hand(0)], [1, 0, "a"])
        store = opened([READ, SPLIT], [("read", 3), ("split", "a", 5, "x", "y")], {"a": [3]})
        go(store, 0, 1, 0, 1, 0)
        self.assertEqual([store.due(0), store.told(0), store.at_hand(0)], [1, 1, "a"])

    def test_a_change_that_has_switched_is_in_the_view_before_it_is_done(self):
        store = opened([READ, SPLIT], [("read", 3), ("split", "a", 5, "x", "y")], {"a": [3]})
        go(store, 1, 1, 0, 0, 0)
        self.assertEqual([store.outcome(1), store.told(0), store.due(0)], ["running", 1, 1])

    def test_rows_of_loose_parts_that_come_into_the_catalog(self):
        store = opened(["read: view, look, read, end", HANG], [("read", 25), ("hang", "x", (20, 30))], {"x": [25]})
        go(store, 0, 1, 0, 0)
        self.assertEqual([store.due(0), store.told(0)], [0, 1])

    def test_a_read_waits_for_none(self):
        store = opened([STRIKE, PUT, READ], [("strike", 3), ("put", 3), ("read", 3)], {"a": [3]})
        go(store, 0, 0, 1, 1)
        self.assertEqual(go(store, 2, 2, 2, 2), ["on", "on", "on", "done"])
        self.assertEqual(store.told(2), 1)


class TestScan(StepCase):

    def test_the_new_part(self):
        for keys, result in [([20, 29], "on"), ([], "on"), ([25, 30], "refused"), ([19], "refused"), ([3], "refused")]:
            store = opened(["hang: scan new, close"], [("hang", "x", (20, 30))], {"x": keys, "c": [25], "y": [3]})
            self.assertEqual(go(store, 0), [result])

    def test_the_rest_part(self):
        for keys, result in [([20, 29], "refused"), ([], "on"), ([30, 45], "on"), ([-5, 25], "refused"), ([40], "on")]:
            store = opened(["hang: scan rest, close"], [("hang", "x", (20, 30))], {"c": keys, "x": [3], "a": [3]})
            self.assertEqual(go(store, 0), [result])

    def test_no_rest_part(self):
        store = opened(["hang: scan rest, close"], [("hang", "x", (20, 30))], {"c": [25]}, "a 0..10")
        self.assertEqual(go(store, 0), ["on"])

    def test_a_span_without_limits(self):
        for keys, result in [([5], "on"), ([], "on")]:
            store = opened(["hang: scan new, close"], [("hang", "x", (None, None))], {"x": keys}, "rest c")
            self.assertEqual(go(store, 0), [result])
        store = opened(["hang: scan rest, close"], [("hang", "x", (None, None))], {"c": [5]}, "rest c")
        self.assertEqual(go(store, 0), ["refused"])

    def test_only_alive_rows_count_and_nobody_is_waited_for(self):
        lines = ["hang: scan new, scan rest, close", DIRECT, STRIKE]
        store = opened(lines, [("hang", "x", (20, 30)), ("direct", "x", 3), ("direct", "c", 25)])
        go(store, 1, 2)
        self.assertEqual(go(store, 0, 0), ["on", "on"])
        go(store, 1, 2)
        self.assertEqual([store.alive("x"), store.alive("c")], [[3], [25]])
        self.assertEqual(go(store, 0), ["done"])
        store = opened(lines, [("hang", "x", (20, 30)), ("strike", 25)], {"c": [25]})
        go(store, 1, 1)
        self.assertEqual(go(store, 0, 0), ["on", "refused"])
        store = opened(lines, [("hang", "x", (20, 30)), ("strike", 25)], {"c": [25]})
        go(store, 1, 1, 1)
        self.assertEqual(go(store, 0, 0, 0), ["on", "on", "done"])

    def test_a_scan_needs_no_change_that_fits(self):
        store = opened(["hang: scan new, scan rest, close"], [("hang", "a", (5, 30))])
        self.assertEqual(go(store, 0, 0, 0), ["on", "on", "refused"])


class TestMove(StepCase):

    def test_a_split(self):
        store = opened([SPLIT], [("split", "a", 5, "x", "y")], {"a": [7, 2, 5, 4], "b": [12]})
        self.assertEqual(go(store, 0), ["on"])
        expected = [(7, None, 0), (2, None, 0), (5, None, 0), (4, None, 0)]
        self.assertEqual([store.versions("a"), str(store.catalog)], [expected, BOOK])
        self.assertEqual([store.versions("x"), store.versions("y")], [[(2, 0, None), (4, 0, None)], [
            (7, 0, None), (5, 0, None)]])
        self.assertEqual([store.alive(part) for part in "abxy"], [[2, 4, 5, 7], [12], [], []])
        self.assertEqual(go(store, 0), ["on"])
        self.assertEqual([store.alive(part) for part in "abxy"], [[], [12], [2, 4], [5, 7]])
        self.assertEqual([str(store.catalog), store.edition], ["b 10..20; x 0..5; y 5..10; rest c", 1])

    def test_a_join(self):
        store = opened([JOIN], [("join", "a", "b", "x")], {"b": [15], "a": [9, 1], "c": [25]})
        self.assertEqual(go(store, 0), ["on"])
        self.assertEqual(store.versions("x"), [(9, 0, None), (1, 0, None), (15, 0, None)])
        self.assertEqual(go(store, 0, 0), ["on", "done"])
        self.assertEqual([store.alive(part) for part in "abcx"], [[], [], [25], [1, 9, 15]])

    def test_the_right_part_of_a_join_comes_behind_the_left_one(self):
        store = opened([JOIN], [("join", "b", "a", "x")], {"b": [5], "a": [15]}, "a 10..20; b 0..10")
        go(store, 0)
        self.assertEqual(store.versions("x"), [(5, 0, None), (15, 0, None)])

    def test_rows_that_the_changed_catalog_gives_elsewhere_or_to_none(self):
        store = opened([SPLIT, DIRECT], [("direct", "a", 15), ("direct", "a", 99), ("split", "a", 5, "x", "y")], {
            "a": [3]}, "a 0..10; b 10..20")
        go(store, 0, 0, 1, 1, 2)
        self.assertEqual(store.versions("a"), [(3, None, 2), (15, 0, 2), (99, 1, None)])
        self.assertEqual([store.versions("b"), store.versions("x")], [[(15, 2, None)], [(3, 2, None)]])
        go(store, 2, 2)
        self.assertEqual([store.alive(part) for part in "abxy"], [[99], [15], [3], []])

    def test_a_change_that_does_not_fit(self):
        for asked in (("split", "z", 5, "x", "y"), ("split", "a", 10, "x", "y"), ("split", "a", 5, "b", "y")):
            store = opened([SPLIT, STRIKE], [asked, ("strike", 3)], {"a": [3]})
            go(store, 1, 1)
            self.assertEqual(go(store, 0), ["refused"])
            self.assertEqual(store.versions("a"), [(3, None, 1)])
        for asked in (("join", "b", "a", "x"), ("join", "a", "c", "x"), ("join", "a", "b", "c")):
            self.assertEqual(go(opened([JOIN], [asked], {"a": [3]}), 0), ["refused"])

    def test_it_waits_for_strikes_in_each_old_part(self):
        sessions = [("join", "a", "b", "x"), ("strike", 13), ("strike", 3), ("strike", 25)]
        store = opened([JOIN, STRIKE], sessions, {"a": [3, 4], "b": [13], "c": [25]})
        go(store, 1, 1, 2, 2, 3, 3)
        self.assert_waits(store, 0, [1, 2])
        go(store, 1)
        self.assert_waits(store, 0, [2])
        go(store, 2)
        self.assertEqual(go(store, 0), ["on"])
        self.assertEqual(store.versions("x"), [(4, 0, None)])

    def test_it_does_not_wait_for_puts_and_leaves_them(self):
        store = opened([SPLIT, PUT], [("split", "a", 5, "x", "y"), ("put", 3)], {"a": [4]})
        self.assertEqual(go(store, 1, 1, 0, 1, 0), ["on", "on", "on", "done", "on"])
        self.assertEqual([store.alive("a"), store.alive("x")], [[3], [4]])

    def test_a_new_part_with_rows(self):
        for part in "xy":
            store = opened([SPLIT], [("split", "a", 5, "x", "y")], {part: [99], "a": [3]})
            self.assertEqual(go(store, 0), ["refused"])
            self.assertEqual([store.versions("a"), store.versions(part)], [[(3, None, None)], [(99, None, None)]])
        self.assertEqual(go(opened([JOIN], [("join", "a", "b", "x")], {"x": [3]}), 0), ["refused"])

    def test_a_new_part_with_rows_that_are_not_alive(self):
        store = opened([SPLIT, DIRECT], [("split", "a", 5, "x", "y"), ("direct", "x", 3)])
        go(store, 1)
        self.assertEqual(go(store, 0), ["on"])
        store = opened([SPLIT, DIRECT], [("split", "a", 5, "x", "y"), ("direct", "x", 3)])
        go(store, 1, 1)
        self.assertEqual(go(store, 0), ["refused"])

    def test_rows_that_are_there_twice_are_moved_twice(self):
        store = opened([SPLIT, PUT], [("put", 3), ("split", "a", 5, "x", "y")], {"a": [3]})
        go(store, 0, 0, 0, 1, 1, 1)
        self.assertEqual([store.alive("a"), store.alive("x")], [[], [3, 3]])


class TestSwitchAndClose(StepCase):

    def test_each_kind_of_change(self):
        for line, asked, behind in [
            (HANG, ("hang", "x", (20, 30)), "a 0..10; b 10..20; x 20..30; rest c"),
            (TAKE, ("take", "b"), "a 0..10; rest c"),
            (SPLIT, ("split", "a", 5, "y", "x"), "b 10..20; x 5..10; y 0..5; rest c"),
            (JOIN, ("join", "a", "b", "x"), "x 0..20; rest c"),
        ]:
            for text in (line, line.replace("switch, end", "close")):
                store = opened([text], [asked])
                while str(store.catalog) == BOOK:
                    self.assertEqual([store.edition, store.settled()], [0, []])
                    result = store.step(0)
                self.assertEqual([str(store.catalog), store.edition, store.settled()], [behind, 1, [0]])
                self.assertEqual(result, "on" if text == line else "done")
                self.assertEqual(store.running(), [0] if text == line else [])

    def test_a_change_that_does_not_fit(self):
        for last in ("switch, end", "close"):
            for line, asked in [
                ("hang", ("hang", "x", (5, 30))), ("hang", ("hang", "c", (30, 40))), ("take", ("take", "c")),
                ("take", ("take", "z")),
            ]:
                store = opened([f"{line}: lock table alone, {last}"], [asked])
                self.assertEqual(go(store, 0, 0), ["on", "refused"])
                self.assertEqual([str(store.catalog), store.edition, store.locks(0)], [BOOK, 0, []])
                self.assertEqual([store.settled(), store.running(), store.holders("table")], [[], [], []])

    def test_a_change_that_fits_no_more(self):
        lines = ["take: close", "split: move, close"]
        store = opened(lines, [("take", "a"), ("take", "a"), ("split", "a", 5, "x", "y")])
        self.assertEqual(go(store, 0, 1, 2), ["done", "refused", "refused"])

    def test_rows_of_a_part_that_was_taken_stay_there(self):
        store = opened(["take: close", HANG], [("take", "a")], {"a": [3]})
        go(store, 0)
        self.assertEqual([store.alive("a"), store.parts()], [[3], ["a"]])

    def test_editions(self):
        store = opened(["take: close", "hang: close"], [("take", "a"), ("take", "b"), ("hang", "a", (0, 10))])
        editions = []
        for number in range(3):
            go(store, number)
            editions.append(store.edition)
        self.assertEqual([editions, str(store.catalog)], [[1, 2, 3], "a 0..10; rest c"])

    def test_a_ninth_part(self):
        text = "a 0..1; b 1..2; c 2..3; d 3..4; e 4..5; f 5..6; g 6..7; rest h"
        store = opened(["hang: close"], [("hang", "x", (10, 20))], {}, text)
        self.assertEqual(go(store, 0), ["refused"])


class TestWait(StepCase):

    LINES = [
        "put: look, again, put, end", STRIKE, READ, "direct: put, end", "take: switch, wait, end",
        "hang: switch, wait, end",
    ]

    def test_it_waits_for_sessions_that_have_looked_before(self):
        store = opened(self.LINES, [("take", "a"), ("strike", 3), ("strike", 15), ("read", 99), ("put", 3)])
        go(store, 1, 2, 3, 0)
        self.assert_waits(store, 0, [1, 2, 3])
        go(store, 2, 2, 1)
        self.assert_waits(store, 0, [1, 3])
        go(store, 1, 3, 3, 3)
        self.assertEqual(go(store, 0, 0), ["on", "done"])

    def test_it_does_not_wait_for_sessions_that_look_later_or_not_at_all(self):
        store = opened(self.LINES, [("take", "a"), ("put", 3), ("put", 4), ("direct", "b", 15), ("hang", "x", (30,
            40))])
        go(store, 0, 1, 3)
        self.assert_ready(store, 0)
        self.assertEqual(go(store, 0), ["on"])

    def test_a_session_that_began_anew(self):
        store = opened(self.LINES, [("put", 3), ("take", "a")])
        go(store, 0, 1)
        self.assert_waits(store, 1, [0])
        self.assertEqual(go(store, 0), ["anew"])
        self.assert_ready(store, 1)
        go(store, 0)
        self.assert_ready(store, 1)
        self.assertEqual(go(store, 1), ["on"])

    def test_sessions_that_have_ended(self):
        store = opened([CLAIM, "take: switch, wait, end"], [("put", 3), ("put", 4), ("take", "b")], {"a": [3]})
        go(store, 0, 1, 2)
        self.assert_waits(store, 2, [0, 1])
        self.assertEqual(go(store, 0), ["refused"])
        self.assert_waits(store, 2, [1])
        go(store, 1, 1)
        self.assert_ready(store, 2)

    def test_a_switch_long_ago_and_a_later_one(self):
        store = opened(self.LINES, [("take", "a"), ("strike", 3), ("hang", "x", (30, 40)), ("strike", 4)])
        go(store, 0, 0, 0, 1, 2, 3)
        self.assert_waits(store, 2, [1])

    def test_a_wait_before_anything_has_changed_since(self):
        store = opened(["take: switch, wait, wait, end", PUT], [("take", "a"), ("put", 3)])
        self.assertEqual(go(store, 0, 0, 1, 0, 0), ["on", "on", "on", "on", "done"])


class TestSettled(StepCase):

    def test_sessions_that_are_done(self):
        store = opened([CLAIM, STRIKE, READ, "direct: claim, end"], [
            ("put", 3), ("strike", 3), ("read", 3), ("direct", "x", 3), ("put", 3)])
        go(store, 0, 0)
        self.assertEqual(store.settled(), [])
        self.assertEqual(go(store, 0, 4, 4), ["done", "on", "refused"])
        self.assertEqual(store.settled(), [0])
        go(store, 3, 3, 1, 1, 1)
        self.assertEqual([store.settled(), store.running()], [[0, 1, 3], [2]])

    def test_changes_that_have_switched(self):
        lines = ["hang: lock table read, switch, wait, lock table read, end", "take: close"]
        store = opened(lines, [("hang", "x", (20, 30)), ("take", "a")])
        found = []
        for _ in range(5):
            found.append([store.settled(), store.running()])
            go(store, 0)
        self.assertEqual(found, [[[], [0, 1]]] * 2 + [[[0], [0, 1]]] * 3)
        go(store, 1)
        self.assertEqual([store.settled(), store.running()], [[0, 1], []])

    def test_moved_rows_are_there_as_soon_as_the_change_has_switched(self):
        store = opened([SPLIT, READ], [("split", "a", 5, "x", "y"), ("read", 3)], {"a": [3]})
        go(store, 0)
        self.assertEqual([store.alive("a"), store.alive("x")], [[3], []])
        go(store, 0)
        self.assertEqual([store.alive("a"), store.alive("x"), store.running()], [[], [3], [0, 1]])


if __name__ == "__main__":
    unittest.main()
