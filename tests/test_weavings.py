"""Tests of [81] to [84] and [86]: weavings, who is ready and stuck, all endings, attempts and reports."""

import itertools
import math
import random
import unittest

from hungparts import weavings
from hungparts.catalogs import Catalog, read_catalog
from hungparts.protocols import plain_protocol, read_protocol
from hungparts.store import Store
from hungparts.weavings import (
    attempts, endings, endings_count, first_ending, is_over, is_stuck, last_attempts, ready, report, ring, run,
)
from tests.helper import Case, every_value, observed, rules

FUNCTIONS = [
    "run", "ready", "is_over", "is_stuck", "ring", "endings", "endings_count", "first_ending", "attempts",
    "last_attempts", "weaving_text", "read_weaving", "report",
]
BOOK = "a 0..10; b 10..20; rest c"
# Two sessions that wait for each other, on some ways.
CROSSED = [
    "put: look, lock table alone, lock part alone, put, end",
    "strike: look, lock part alone, lock table alone, strike, end",
]

# Three kinds of sessions that wait for each other in a circle, and one that waits for one of them.
CIRCLE = """pa pb sa sb ra rb t: pa!rb pa!t pb!sa sb!ra
put: look, lock table pa, lock table pb, put, end
strike: lock table sa, lock table sb, look, strike, end
read: lock table ra, lock table rb, look, view, read, end
take: lock table t, close"""


def opened(protocol, sessions, rows=None, text=BOOK):
    """A store in which some sessions have begun."""
    store = Store(protocol, read_catalog(text), rows)
    for asked in sessions:
        store.begin(asked)
    return store


def no_weavings():
    """Values of every kind that are no lists of tuples and integers."""
    found = [
        value for value in every_value()
        if not isinstance(value, list) or [item for item in value if isinstance(item, bool) or not isinstance(
            item, (tuple, int))]
    ]
    return [*found, (("put", 3),), ((), 0), [("put", 3), True], [None], ["put 3"], [("put", 3), "0"], [[("put", 3)]],
        {}]


def all_endings(store):
    """All endings of a store, found by trying each session in each place."""
    found = []
    for number in range(len(store)):
        if store.can(number):
            behind = store.copy()
            behind.step(number)
            found.extend([[number, *rest] for rest in all_endings(behind)])
    return found or [[]]


class TestRun(Case):

    def test_functions_stand_in_the_file(self):
        for name in FUNCTIONS:
            self.assertEqual(getattr(weavings, name).__module__, "hungparts.weavings")

    def test_arguments_may_be_passed_by_name(self):
        store = Store(plain_protocol(), read_catalog(BOOK))
        behind, answers = run(weaving=[("put", 3), 0], store=store)
        self.assertEqual([len(behind), answers], [1, [0, "on"]])
        self.assertEqual([ready(store=behind), is_over(store=behind), is_stuck(store=behind)], [[0], False, False])
        self.assertEqual([ring(store=behind), endings_count(store=behind)], [None, 1])
        self.assertEqual(list(endings(store=behind)), [[0] * 4])
        self.assertEqual(first_ending(order=[0], store=behind), [0] * 4)
        self.assertEqual(attempts(weaving=[("put", 3), 0], store=store), [[1]])
        self.assertEqual(last_attempts(weaving=[("put", 3), 0], store=store), [("put", 3), 0])
        self.assertEqual(report(weaving=[("put", 3)], store=store), ["0: put 3"])

    def test_what_turns_return(self):
        store = Store(plain_protocol(), read_catalog(BOOK), {"a": [5]})
        weaving = [("put", 3), 0, ("take", "a"), 0, 0, 0, 0, ("put", 5), 1, 1, 2, 2, 2, 2]
        behind, answers = run(store, weaving)
        self.assertEqual(answers, [0, "on", 1, "on", "on", "on", "done", 2, "on", "done", "on", "on", "on", "on"])
        self.assertEqual([behind.running(), str(behind.catalog)], [[2], "b 10..20; rest c"])
        self.assertIs(type(run(store, weaving)), tuple)
        self.assertIs(type(behind), Store)

    def test_the_given_store_stays_as_it_was(self):
        store = opened(plain_protocol(), [("put", 3)], {"a": [5]})
        store.step(0)
        before = observed(store), store.state()
        weaving = [0, 0, ("take", "b"), 0, 0, 1]
        behind, answers = run(store, weaving)
        self.assertEqual(answers, ["on", "on", 1, "on", "done", "on"])
        self.assertEqual((observed(store), store.state()), before)
        behind.step(1)
        self.assertEqual((observed(store), store.state()), before)
        self.assertEqual(weaving, [0, 0, ("take", "b"), 0, 0, 1])

    def test_the_empty_weaving(self):
        store = opened(plain_protocol(), [("put", 3)])
        behind, answers = run(store, [])
        self.assertEqual([answers, behind.state()], [[], store.state()])
        self.assertIsNot(behind, store)

    def test_what_is_no_store(self):
        for value in every_value():
            if not isinstance(value, Store):
                for function in (ready, is_over, is_stuck, ring, endings_count):
                    self.assert_error("InvalidStore", value, function, value)
                for function in (run, first_ending, attempts, last_attempts, report):
                    self.assert_error("InvalidStore", value, function, value, [])
                    self.assert_error("InvalidStore", value, function, value, None)
                self.assert_error("InvalidStore", value, lambda given: list(endings(given)), value)

    def test_what_is_no_weaving(self):
        store = Store(plain_protocol(), read_catalog(BOOK))
        for value in no_weavings():
            for function in (run, attempts, last_attempts, report):
                self.assert_error("InvalidWeaving", value, function, store, value)
        for function in (run, attempts, last_attempts, report):
            value = [("put", "x"), 99, None]
            self.assert_error("InvalidWeaving", value, function, store, value)

    def test_bad_turns_at_the_beginning_in_the_middle_and_at_the_end(self):
        store = Store(rules("put: look, lock table alone, put, end"), read_catalog(BOOK))
        good = [("put", 3), 0, 0, ("put", 4), 1]
        bad_put = ("put", "x")
        for function in (run, attempts, last_attempts, report):
            for turns, error, told in [
                ([bad_put, *good], "InvalidSession", bad_put), ([*good, bad_put], "InvalidSession", bad_put),
                ([*good[:2], bad_put, 0], "InvalidSession", bad_put), ([()], "InvalidSession", ()),
                ([("take", "a"), bad_put], "NoProgram", "take"), ([*good, ("take", "a"), bad_put], "NoProgram", "take"),
                ([0, *good], "InvalidNumber", 0), ([*good[:3], 1, bad_put], "InvalidNumber", 1),
                ([*good, -1], "InvalidNumber", -1), ([*good, 2], "InvalidNumber", 2),
                ([*good, 1, bad_put], "Waiting", 1), ([*good, 0, 0, 0, bad_put], "Ended", 0),
            ]:
                self.assert_error(error, told, function, store, turns)
        self.assertEqual(len(store), 0)


class TestReady(Case):

    def test_a_store_that_is_over(self):
        store = opened(plain_protocol(), [("put", 3), ("put", 3)])
        for number in [0] * 5 + [1] * 4:
            self.assertIs(is_over(store), False)
            store.step(number)
        self.assertEqual([is_over(store), is_stuck(store), ready(store), ring(store)], [True, False, [], None])
        empty = Store(rules(), Catalog())
        self.assertEqual([is_over(empty), is_stuck(empty), ready(empty), ring(empty)], [True, False, [], None])

    def test_a_store_in_which_some_are_ready(self):
        store = opened(plain_protocol(), [("take", "a"), ("put", 3), ("put", 4)])
        self.assertEqual(ready(store), [0, 1, 2])
        store.step(0)
        self.assertEqual(ready(store), [0, 1, 2])
        store.step(1)
        self.assertEqual([ready(store), is_over(store), is_stuck(store), ring(store)], [[0, 2], False, False, None])
        store.step(0)
        self.assertEqual(ready(store), [1, 2])

    def test_a_ring_of_two(self):
        store = opened(rules(*CROSSED), [("strike", 3), ("put", 3)])
        for number in (0, 1, 0, 1):
            self.assertEqual([is_stuck(store), ring(store)], [False, None])
            store.step(number)
        self.assertEqual([is_stuck(store), is_over(store), ready(store), ring(store)], [True, False, [], [0, 1]])

    def test_rings_of_three(self):
        for kinds in itertools.permutations(["put", "strike", "read"]):
            store = Store(read_protocol(CIRCLE), read_catalog(BOOK))
            for kind in kinds:
                store.begin((kind, 3))
            for number in range(3):
                while len(store.locks(number)) == 0:
                    self.assertIsNone(ring(store))
                    store.step(number)
            number = kinds.index("put")
            expected = [number, kinds.index("strike"), kinds.index("read")]
            first = expected.index(0)
            self.assertEqual([is_stuck(store), is_over(store), ready(store)], [True, False, []])
            self.assertEqual(ring(store), [*expected[first:], *expected[:first]])

    def test_a_ring_without_the_least_session(self):
        store = Store(read_protocol(CIRCLE), read_catalog(BOOK))
        for asked in (("take", "a"), ("read", 3), ("put", 3), ("strike", 3)):
            store.begin(asked)
        for number in (2, 2, 1, 3):
            store.step(number)
        self.assertEqual([store.waits_for(number) for number in range(4)], [[2], [2], [3], [1]])
        self.assertEqual(ring(store), [1, 2, 3])

    def test_rings_of_stuck_stores(self):
        found = 0
        for seed in range(200):
            chance = random.Random(seed)
            store = opened(rules(*CROSSED, "take: lock old alone, lock table alone, close"), [
                chance.choice([("put", 3), ("strike", 3), ("put", 13), ("strike", 13), ("take",
                    "a")]) for _ in range(4)])
            while ready(store):
                store.step(chance.choice(ready(store)))
            if is_stuck(store):
                found += 1
                self.check_ring(store, ring(store))
            else:
                self.assertIsNone(ring(store))
        self.assertGreater(found, 20)

    def check_ring(self, store, numbers):
        """Each session waits for the next one, and the least number comes first."""
        self.assertGreater(len(numbers), 1)
        self.assertEqual([len(set(numbers)), numbers[0]], [len(numbers), min(numbers)])
        for number, further in zip(numbers, [*numbers[1:], numbers[0]]):
            self.assertIn(further, store.waits_for(number))
        self.assertEqual(ring(store.copy()), numbers)


class TestEndings(Case):

    STORES = [
        (plain_protocol(), [("put", 3)], {}),
        (plain_protocol(), [("put", 3), ("take", "a")], {}),
        (plain_protocol(), [("take", "a"), ("strike", 3)], {"a": [3]}),
        (plain_protocol(), [("direct", "a", 15), ("take", "a"), ("take", "a")], {}),
        (rules(*CROSSED), [("put", 3), ("strike", 3)], {}),
        (rules("direct: claim, end"), [("direct", "x", 3)] * 3, {}),
        (rules("put: look, again, put, end", "take: switch, wait, end"), [("put", 3), ("take", "b"), ("take", "a")],
            {}),
        (rules(*CROSSED, "direct: put, end"), [("strike", 3), ("direct", "x", 3), ("put", 3)], {}),
    ]

    def test_all_endings_in_ascending_order(self):
        for store in [opened(*given) for given in self.STORES]:
            before = observed(store), store.state()
            expected = all_endings(store)
            found = list(endings(store))
            self.assertEqual(found, expected)
            self.assertEqual(found, sorted(found))
            self.assertEqual(endings_count(store), len(expected))
            self.assertEqual((observed(store), store.state()), before)
            for turns in found[::7]:
                behind, _ = run(store, turns)
                self.assertEqual(ready(behind), [])

    def test_endings_of_stores_that_have_gone_on(self):
        for given in self.STORES:
            store = opened(*given)
            while ready(store):
                store.step(ready(store)[-1])
                self.assertEqual(list(endings(store)), all_endings(store))
                self.assertEqual(endings_count(store), len(all_endings(store)))

    def test_two_sessions_that_do_not_matter_to_each_other(self):
        store = opened(rules("direct: put, end"), [("direct", "x", 3), ("direct", "y", 3)])
        expected = [[0, 0, 1, 1], [0, 1, 0, 1], [0, 1, 1, 0], [1, 0, 0, 1], [1, 0, 1, 0], [1, 1, 0, 0]]
        self.assertEqual(list(endings(store)), expected)

    def test_a_store_that_is_stuck_on_some_way(self):
        store = opened(rules(*CROSSED), [("put", 3), ("strike", 3)])
        stuck = [turns for turns in endings(store) if is_stuck(run(store, turns)[0])]
        self.assertEqual(stuck[0], [0, 0, 1, 1])
        self.assertEqual(len(stuck), 6)
        self.assertGreater(endings_count(store), len(stuck))

    def test_a_store_that_is_over_or_stuck_already(self):
        store = opened(rules(*CROSSED), [("put", 3), ("strike", 3)])
        for number in (0, 0, 1, 1):
            store.step(number)
        for ended in (store, Store(rules(), Catalog()), run(opened(plain_protocol(), [("put", 3)]), [0] * 5)[0]):
            self.assertEqual([list(endings(ended)), endings_count(ended)], [[[]], 1])
            self.assertEqual(first_ending(ended, ended.running()), [])

    def test_lists_that_were_returned_may_be_changed(self):
        store = opened(rules("direct: put, end"), [("direct", "x", 3), ("direct", "y", 3)])
        expected, found = all_endings(store), []
        for turns in endings(store):
            found.append(list(turns))
            turns.clear()
            turns.append(99)
        self.assertEqual(found, expected)
        ready(store).clear()
        self.assertEqual(ready(store), [0, 1])

    def test_it_is_a_generator_that_begins_at_once(self):
        store = opened(plain_protocol(), [("put", key) for key in range(8)])
        for turns in endings(store):
            self.assertEqual(turns, [number for number in range(8) for _ in range(5)])
            break

    def test_very_many_endings(self):
        for protocol, kind, steps, many in [
            (plain_protocol(), "put", 5, 4), (plain_protocol(), "read", 6, 4), (rules("put: look, put, end"), "put", 3,
                6),
        ]:
            store = opened(protocol, [(kind, key) for key in range(many)])
            expected = math.factorial(steps * many) // math.factorial(steps) ** many
            self.assertEqual(endings_count(store), expected)

    def test_very_many_endings_of_sessions_that_matter_to_each_other(self):
        sessions = [("put", 3), ("put", 3), ("strike", 3), ("read", 3), ("take", "a")]
        store = opened(plain_protocol(), sessions, {"a": [3]})
        self.assertGreater(endings_count(store), 10 ** 12)
        counts = sum(endings_count(run(store, [number])[0]) for number in ready(store))
        self.assertEqual(endings_count(store), counts)

    def test_sessions_that_go_one_after_the_other(self):
        sessions = [("take", part) for part in "ab"] + [("hang", "x", (30, None)), ("hang", "y", (20, 30))]
        store = opened(rules("take: lock table alone, close", "hang: lock table alone, close"), sessions)
        self.assertEqual(endings_count(store), 24)


class TestFirstEnding(Case):

    def test_several_orders(self):
        store = opened(plain_protocol(), [("put", 3), ("take", "a"), ("read", 3)], {"b": [13]})
        found = list(endings(store))
        for order in itertools.permutations(range(3)):
            turns = first_ending(store, list(order))
            self.assertIn(turns, found)
            self.check_order(store, turns, order)
        self.assertEqual(first_ending(store, [1, 0, 2]), [1] * 2 + [0] * 5 + [2] * 6)

    def check_order(self, store, turns, order):
        """At each turn it is the first one in the order among those that are ready."""
        behind = store.copy()
        for turn in turns:
            self.assertEqual(turn, min(ready(behind), key=order.index))
            behind.step(turn)
        self.assertEqual(ready(behind), [])

    def test_sessions_that_wait(self):
        store = opened(plain_protocol(), [("put", 3), ("take", "a")])
        store.step(1)
        self.assertEqual(first_ending(store, [0, 1]), [0, 1, 0, 0, 0, 0, 0, 0, 0])
        self.assertEqual(first_ending(store, [1, 0]), [1, 0, 0, 0, 0, 0])
        self.check_order(store, first_ending(store, [0, 1]), (0, 1))
        self.check_order(store, first_ending(store, [1, 0]), (1, 0))

    def test_orders_that_are_none(self):
        store = opened(plain_protocol(), [("direct", "b", 3), ("put", 3), ("put", 4)])
        for number in (0, 0):
            store.step(number)
        self.assertEqual(store.running(), [1, 2])
        before = observed(store)
        wrong = [
            (1, 2), [1], [2], [], [1, 1], [1, 2, 2], [1, 2, 0], [0, 1], [1, 2, 3], [True, 2], [2, True], ["1", "2"],
            [1, 2, None], [1, "2"], {1: 2}, "12", [[1, 2]], [-1, 2], [2, 1, 1], [1, 2, 1],
        ]
        for value in [*every_value(), *wrong]:
            self.assert_error("InvalidNumber", value, first_ending, store, value)
        for order in ([1, 2], [2, 1]):
            self.assertEqual(len(first_ending(store, order)), 10)
        self.assertEqual(observed(store), before)

    def test_the_order_is_not_modified(self):
        order = [1, 0]
        first_ending(opened(plain_protocol(), [("put", 3), ("put", 4)]), order)
        self.assertEqual(order, [1, 0])


class TestAttempts(Case):

    PROTOCOL = rules(
        "put: look, again, put, end", "strike: look, lock part read, again, strike, end",
        "read: look, view, again, read, end", "take: close", "hang: close", "direct: border, put, end",
    )

    def started(self):
        """A store without sessions."""
        return Store(self.PROTOCOL, read_catalog(BOOK), {"a": [3]})

    def test_sessions_that_never_begin_anew(self):
        weaving = [("put", 4), 0, ("take", "b"), ("read", 3), 2, 2, 1, ("direct", "b", 3)]
        self.assertEqual(attempts(self.started(), weaving), [[1], [6], [4, 5], []])
        self.assertEqual(last_attempts(self.started(), weaving), weaving)
        self.assertEqual([attempts(self.started(), []), last_attempts(self.started(), [])], [[], []])

    def test_sessions_that_begin_anew_once(self):
        weaving = [("put", 4), 0, ("take", "b"), 1, 0, 0, 0, 0, 0]
        self.assertEqual(attempts(self.started(), weaving), [[5, 6, 7, 8], [3]])
        self.assertEqual(last_attempts(self.started(), weaving), [("put", 4), ("take", "b"), 1, 0, 0, 0, 0])
        self.assertEqual(attempts(self.started(), weaving[:5]), [[], [3]])
        self.assertEqual(last_attempts(self.started(), weaving[:5]), [("put", 4), ("take", "b"), 1])
        self.assertEqual(attempts(self.started(), weaving[:4]), [[1], [3]])

    def test_sessions_that_begin_anew_twice(self):
        weaving = [("read", 3), ("take", "b"), 0, 0, 1, 0, 0, 0, ("take", "a"), 2, 0, 0, 0, 0, 0, 0]
        self.assertEqual(run(self.started(), weaving)[1].count("anew"), 2)
        self.assertEqual(attempts(self.started(), weaving), [[11, 12, 13, 14, 15], [4], [9]])
        expected = [("read", 3), ("take", "b"), 1, ("take", "a"), 2, 0, 0, 0, 0, 0]
        self.assertEqual(last_attempts(self.started(), weaving), expected)

    def test_the_weaving_of_the_last_attempts_comes_to_the_same(self):
        anew = 0
        for seed in range(300):
            weaving = self.weave(random.Random(seed))
            behind, answers = run(self.started(), weaving)
            anew += answers.count("anew")
            shorter = last_attempts(self.started(), weaving)
            again, fewer = run(self.started(), shorter)
            self.assertNotIn("anew", fewer)
            for number in range(len(behind)):
                self.assertEqual(again.asked(number), behind.asked(number))
                self.assertEqual(again.outcome(number), behind.outcome(number))
                self.assertEqual(again.told(number), behind.told(number))
            self.assertEqual(again.catalog, behind.catalog)
            steps = [index for row in attempts(self.started(), weaving) for index in row]
            self.assertEqual(len(shorter), len(steps) + len(behind))
        self.assertGreater(anew, 100)

    def weave(self, chance):
        """Some weaving of sessions that begin and go on at random."""
        wishes = [("put", 4), ("put", 13), ("strike", 3), ("read", 3), ("take", "a"), ("take", "b"), ("hang", "x", (20,
            30))]
        chance.shuffle(wishes)
        store, weaving = self.started(), []
        while wishes or ready(store):
            able = ready(store)
            turn = wishes.pop() if wishes and (not able or chance.random() < 0.4) else chance.choice(able)
            weaving.append(turn)
            store, _ = run(store, [turn])
        return weaving

    def test_stores_with_sessions(self):
        store = opened(plain_protocol(), [("put", 3)])
        ended = run(store, [0] * 5)[0]
        for given in (store, ended):
            for function in (attempts, last_attempts):
                self.assert_error("InvalidStore", given, function, given, [])
                self.assert_error("InvalidStore", given, function, given, [0])
                self.assert_error("InvalidStore", given, function, given, None)

    def test_arguments_are_not_modified(self):
        weaving = [("put", 4), 0, ("take", "b"), 1, 0, 0]
        store = self.started()
        last_attempts(store, weaving)
        self.assertEqual([weaving, len(store)], [[("put", 4), 0, ("take", "b"), 1, 0, 0], 0])


class TestReport(Case):

    def test_line_by_line(self):
        store = Store(plain_protocol(), read_catalog(BOOK), {"a": [5]})
        weaving = [
            ("put", 3), 0, ("take", "b"), ("put", 5), 1, 1, 0, 0, 2, 2, 2, 2, ("hang", "x", (20, None)),
            ("split", "a", 5, "y", "z"), ("direct", "x", -3), 5, 5, 3, 5,
        ]
        self.assertEqual(report(store, weaving), [
            "0: put 3", "0: look - on", "1: take b", "2: put 5", "1: lock table alone - on", "1: close - done",
            "0: lock table write - on", "0: again - anew", "2: look - on", "2: lock table write - on", "2: again - on",
            "2: claim - refused", "3: hang x 20..", "4: split a 5 y z", "5: direct x -3", "5: lock part write - on",
            "5: border - on", "3: lock table alone - on", "5: claim - on",
        ])
        self.assert_error("Waiting", 3, report, store, [*weaving, 3])

    def test_a_store_with_sessions(self):
        store = opened(plain_protocol(), [("put", 3)], {"a": [3]})
        found = report(store, [0, ("read", -5), 1, 0, 0, 0])
        self.assertEqual(found, [
            "0: look - on", "1: read -5", "1: look - on", "0: lock table write - on", "0: again - on",
            "0: claim - refused",
        ])
        self.assertEqual([len(store), store.outcome(0)], [1, "running"])

    def test_the_empty_weaving(self):
        self.assertEqual(report(opened(plain_protocol(), [("put", 3)]), []), [])


if __name__ == "__main__":
    unittest.main()
