"""Tests of [111] to [113]: scenes, shortest rows of turns that go wrong, and closed tables."""

import random
import unittest

from hungparts import scenes as module
from hungparts.catalogs import Catalog, read_catalog
from hungparts.events import events, first_wrong
from hungparts.protocols import Rulebook, plain_protocol
from hungparts.scenes import closed, is_closed, is_scene, is_wrong_row, opened, shortest
from hungparts.scening import scenes
from hungparts.store import Store
from hungparts.strengths import standard
from hungparts.weavings import endings, ready, run
from tests.helper import BARE, Case, every_value, observed, rules

BOOK = Catalog({"a": (0, 10), "b": (10, 20)}, rest="c")
PUT_TAKE = (BOOK, {}, [("put", 3), ("take", "a")])
LOCKED = rules("put: look, lock table write, again, claim, end", "take: lock table alone, close")
NO_SCENES = [
    # The tuple as a whole.
    (), (BOOK,), (BOOK, {}), (BOOK, {}, [("put", 3)], []), [BOOK, {}, [("put", 3)]], (BOOK, [("put", 3)], {}),
    # The catalog and the rows.
    (None, {}, [("put", 3)]), (str(BOOK), {}, [("put", 3)]), (BOOK, None, [("put", 3)]), (BOOK, [], [("put", 3)]),
    (BOOK, {"a": (3,)}, [("put", 3)]), (BOOK, {"A": [3]}, [("put", 3)]), (BOOK, {"a": [True]}, [("put", 1)]),
    (BOOK, {"b": [3]}, [("put", 3)]), (BOOK, {"c": [3]}, [("put", 3)]), (BOOK, {"a": [3, 3]}, [("put", 3)]),
    (BOOK, {"a": [None]}, [("put", 3)]), (BOOK, {1: [3]}, [("put", 3)]),
    # The list of sessions.
    (BOOK, {}, []), (BOOK, {}, (("put", 3),)), (BOOK, {}, ("put", 3)), (BOOK, {}, [("put", 3)] * 3), (BOOK, {}, None),
    (BOOK, {}, [("put", True)]), (BOOK, {}, [["put", 3]]), (BOOK, {}, [("put", 3), 0]), (BOOK, {}, ["put 3"]),
    (BOOK, {}, [("put", 3, 3)]), (BOOK, {}, [("direct", "A", 3)]), (BOOK, {}, [("hang", "d", (5, 5))]),
    (BOOK, {}, [("split", "a", 5, "d", "d")]), (BOOK, {}, [None]), (BOOK, {"a": [3]}, [()]),
    # Two changes, three rows, and two keys.
    (BOOK, {}, [("take", "a"), ("take", "b")]), (BOOK, {}, [("take", "a"), ("take", "a")]),
    (BOOK, {"a": [3], "d": [3], "e": [3]}, [("put", 3)]), (BOOK, {"a": [3, 4]}, [("take", "a")]),
    (BOOK, {"a": [3], "d": [4]}, [("take", "a")]), (BOOK, {"a": [3]}, [("put", 4)]), (BOOK, {"a": [3]}, [
        ("take", "a"), ("put", 4)]), (BOOK, {}, [("put", 3), ("put", 4)]), (BOOK, {}, [("put", 3), ("direct", "a", 4)]),
]


def all_rows(protocol, scene, most):
    """All rows of turns with at most so many turns that can be made."""
    found, rows = [], [[]]
    for _ in range(most + 1):
        found += rows
        rows = [[*row, number] for row in rows for number in ready(run(opened(protocol, scene), row)[0])]
    return found


def closed_by_words(protocol, scene, table):
    """Whether a list of rows of turns is a closed table by the words of [113]."""
    start = opened(protocol, scene)
    made = [row for row in all_rows(protocol, scene, max(len(row) for row in table)) if row in table]
    if [] not in table or [row for row in table if row not in made or events(start, row)]:
        return False
    states = [run(start, row)[0].state() for row in table]
    more = [[*row, number] for row in table for number in ready(run(start, row)[0])]
    return all(run(start, row)[0].state() in states and not events(start, row) for row in more)


class TestIsScene(Case):

    def test_scenes(self):
        for scene in (
                PUT_TAKE, (Catalog(), {}, [("put", 3)]), (BOOK, {"a": [3]}, [("read", 3), ("strike", 3)]),
                (BOOK, {"a": [3], "d": [3]}, [("put", 3), ("split", "a", 5, "d", "e")]),
                (BOOK, {"d": [3], "e": [3], "f": []}, [("direct", "d", 3), ("join", "a", "b", "x")]),
                (BOOK, {"c": [-25]}, [("hang", "d", (None, 0))]), (BOOK, {}, [("put", 3), ("put", 3)]),
                (BOOK, {"d": [7], "e": [7]}, [("take", "nobody")]), (BOOK, {"a": []}, [("read", 10 ** 29)])):
            self.assertIs(is_scene(scene), True)
            self.assertIs(is_scene(value=scene), True)

    def test_each_condition_alone(self):
        for value in NO_SCENES:
            self.assertIs(is_scene(value), False, value)

    def test_any_values(self):
        for value in every_value():
            self.assertIs(is_scene(value), False)
            for at in range(3):
                items = list(PUT_TAKE)
                items[at] = value
                told = (at == 0 and isinstance(value, Catalog)) or (at == 1 and value == {})
                self.assertIs(is_scene(tuple(items)), told)
            self.assertIs(is_scene((BOOK, {}, [value])), False)
            self.assertIs(is_scene((BOOK, {"a": value}, [("take", "a")])), value == [])
            self.assertIs(is_scene((BOOK, {"d": [value]}, [("take", "a")])), type(value) is int)

    def test_what_stands_in_the_file(self):
        for name in ("is_scene", "opened", "shortest", "is_wrong_row", "closed", "is_closed"):
            self.assertEqual(getattr(module, name).__module__, "hungparts.scenes")


class TestOpened(Case):

    def test_the_store(self):
        protocol = rules(*BARE)
        store = opened(protocol=protocol, scene=(BOOK, {"a": [3]}, [("put", 3), ("take", "a")]))
        self.assertEqual([store.asked(0), store.asked(1), len(store)], [("put", 3), ("take", "a"), 2])
        self.assertEqual([store.next_step(0), store.next_step(1), store.alive("a")], [("look",), ("close",), [3]])
        self.assertEqual([store.protocol == protocol, store.catalog, store.edition], [True, BOOK, 0])

    def test_the_scene_stays_as_it_was(self):
        rows, sessions = {"a": [3]}, [("put", 3), ("take", "a")]
        store = opened(rules(*BARE), (BOOK, rows, sessions))
        rows["a"].append(4)
        sessions.clear()
        self.assertEqual([store.alive("a"), len(store)], [[3], 2])

    def test_exceptions_in_their_order(self):
        few = rules("take: close", "put: look, put, end")
        calls = [(opened, []), (shortest, []), (is_wrong_row, [[]]), (closed, []), (is_closed, [[]])]
        for call, more in calls:
            for value in every_value():
                if not isinstance(value, Rulebook):
                    self.assert_error("InvalidProtocol", value, call, value, None, *more)
            for value in [*every_value(), *NO_SCENES]:
                self.assert_error("InvalidScene", value, call, few, value, *more)
            self.assert_error("NoProgram", "read", call, few, (BOOK, {}, [("read", 3), ("strike", 3)]), *more)
            self.assert_error("NoProgram", "strike", call, few, (BOOK, {}, [("strike", 3), ("read", 3)]), *more)
            self.assert_error("NoProgram", "read", call, few, (BOOK, {}, [("put", 3), ("read", 3)]), *more)
            self.assert_error("NoProgram", "put", call, Rulebook(standard(), {}), PUT_TAKE, *more)


class TestShortest(Case):

    def test_the_example(self):
        protocol = Rulebook(standard(), {"put": [("look",), ("claim",), ("end",)], "take": [("close",)]})
        scene = (Catalog({"a": (0, 10)}), {}, [("put", 3), ("take", "a")])
        self.assertEqual([len(shortest(protocol, scene)), closed(protocol, scene)], [4, None])

    def test_by_words(self):
        for scene in scenes(rules(*BARE)):
            for protocol in (rules(*BARE), plain_protocol()):
                told = shortest(protocol=protocol, scene=scene)
                start = opened(protocol, scene)
                self.assertEqual(told, first_wrong(Store(protocol, *scene[:2]), scene[2]))
                rows = all_rows(protocol, scene, 12 if told is None else len(told))
                wrong = [row for row in rows if events(start, row)]
                if told is None:
                    self.assertEqual(wrong, [])
                else:
                    self.assertIn(told, wrong)
                    self.assertEqual({len(row) for row in wrong}, {len(told)})
                    self.assertEqual({event[0] for event in events(start, told)}, {len(told) - 1})

    def test_lists_that_were_told(self):
        shortest(rules(*BARE), PUT_TAKE).clear()
        self.assertEqual(len(shortest(rules(*BARE), PUT_TAKE)), 4)


class TestIsWrongRow(Case):

    def test_rows(self):
        protocol = rules(*BARE)
        for turns in ([0, 0, 1, 0], [0, 1, 0, 0]):
            self.assertIs(is_wrong_row(protocol, PUT_TAKE, turns), True)
            self.assertIs(is_wrong_row(protocol=protocol, scene=PUT_TAKE, turns=turns), True)
        # No event, a turn too many, turns that cannot be made, and an event that is not at the end.
        for turns in ([], [0], [0, 1, 0], [1, 0, 0], [0, 0, 0, 1], [0, 0, 1, 0, 0], [0, 0, 1, 0, 1], [0, 0, 1, 0, 2],
                [0, 0, 1, 0, -1], [2, 0, 0, 1, 0], [1, 1]):
            self.assertIs(is_wrong_row(protocol, PUT_TAKE, turns), False)
        scene = (BOOK, {"a": [3]}, [("put", 3), ("read", 3)])
        self.assertIs(is_wrong_row(protocol, scene, [0, 0, 0, 1, 1]), True)
        self.assertIs(is_wrong_row(protocol, scene, [1, 1, 0, 0, 0]), True)

    def test_waiting_and_any_values(self):
        self.assertIs(is_wrong_row(LOCKED, PUT_TAKE, [0, 0, 1, 1]), False)
        for value in [*every_value(), (0, 0, 1, 0), [0, 0, True, 0], [False, 0, 1, 0], [0, 0, "1", 0], [0, 0, None],
                [0, 0, 1, 0, ("put", 3)], [("put", 3), 2, 0, 0, 1, 0], [0, 0, 1, 0, ()]]:
            self.assertIs(is_wrong_row(rules(*BARE), PUT_TAKE, value), False)

    def test_by_words(self):
        for scene in scenes(rules(*BARE))[:20]:
            start = opened(rules(*BARE), scene)
            for row in all_rows(rules(*BARE), scene, 6):
                self.assertIs(is_wrong_row(rules(*BARE), scene, row), bool(events(start, row)))


class TestClosed(Case):

    def assert_closed(self, table, told=True, protocol=LOCKED, scene=PUT_TAKE):
        """A list is a closed table of a scene, or is none."""
        self.assertIs(is_closed(protocol, scene, table), told)
        self.assertIs(is_closed(protocol=protocol, scene=scene, table=table), told)

    def test_exactly_one_is_none(self):
        found = set()
        for protocol in (rules(*BARE), plain_protocol(), rules(*BARE[:4], "take: lock table alone, close")):
            for scene in scenes(protocol):
                table = closed(protocol=protocol, scene=scene)
                self.assertIs(table is None, shortest(protocol, scene) is not None)
                found.add(table is None)
                if table is not None:
                    self.assert_closed(table, True, protocol, scene)
                    self.assertIs(closed_by_words(protocol, scene, table), True)
        self.assertEqual(found, {True, False})

    def test_a_table_in_another_form(self):
        table = closed(LOCKED, PUT_TAKE)
        self.assertGreater(len(table), 8)
        rng = random.Random(113)
        for _ in range(5):
            other = rng.sample(table, len(table))
            self.assert_closed(other)
            self.assert_closed([*other, *other[:3]])
        # All rows of turns there are, and of two rows that lead to the same state the other one.
        rows = all_rows(LOCKED, PUT_TAKE, 12)
        self.assert_closed(rows)
        states = {run(opened(LOCKED, PUT_TAKE), row)[0].state(): row for row in rows}
        self.assertEqual(len(states), len(table))
        self.assertNotEqual(sorted(states.values()), sorted(table))
        self.assert_closed([[], *states.values()])
        self.assert_closed([*table, max(rows)])

    def test_a_row_left_out(self):
        for protocol, scene in ((LOCKED, PUT_TAKE), (plain_protocol(), (BOOK, {"a": [3]}, [
                ("read", 3), ("split", "a", 5, "d", "e")]))):
            table = closed(protocol, scene)
            for at in range(len(table)):
                self.assert_closed(table[:at] + table[at + 1:], False, protocol, scene)

    def test_rows_that_cannot_be_made_or_have_an_event(self):
        table = closed(LOCKED, PUT_TAKE)
        for row in ([2], [-1], [0, 0, 1], [1, 1, 1], [0] * 7, [0, 0, 0, 0, 0, 0], [10 ** 20]):
            self.assert_closed([*table, row], False)
            self.assert_closed([row, *table], False)
        protocol = rules("put: look, put, end")
        scene = (BOOK, {"a": [3]}, [("put", 3)])
        self.assert_closed([[], [0], [0, 0]], False, protocol, scene)
        self.assert_closed([[], [0], [0, 0], [0, 0, 0]], False, protocol, scene)
        self.assert_closed([[], [0], [0, 0], [0, 0, 0]], True, protocol, (BOOK, {}, [("put", 3)]))

    def test_rows_behind_an_event(self):
        # Behind the row with an event all goes on without another one.
        protocol = rules("put: look, put, end", "read: look, view, read, end")
        scene = (BOOK, {"a": [3]}, [("put", 3), ("read", 3)])
        self.assert_closed(all_rows(protocol, scene, 12), False, protocol, scene)

    def test_any_values(self):
        table = closed(LOCKED, PUT_TAKE)
        for value in [*every_value(), tuple(table), [()], [[], ()], {}, {(): True}]:
            self.assert_closed(value, False)
            if not isinstance(value, list) or [item for item in value if type(item) is not int]:
                self.assert_closed([*table, value], False)
            if type(value) is not int or value not in (0, 1):
                self.assert_closed([*table, [value]], False)
        self.assert_closed([], False)
        self.assert_closed([[]], False)
        self.assert_closed([tuple(row) for row in table], False)
        self.assert_closed([*table, [True]], False)
        self.assert_closed([*table, [False]], False)
        self.assert_closed([*table, [0, None]], False)

    def test_what_was_passed_and_told(self):
        table = closed(LOCKED, PUT_TAKE)
        rows = [list(row) for row in table]
        is_closed(LOCKED, PUT_TAKE, table)
        self.assertEqual(table, rows)
        table[0].append(7)
        table.clear()
        self.assertEqual(closed(LOCKED, PUT_TAKE), rows)

    def test_a_scene_whose_sessions_get_stuck(self):
        protocol = rules(
            "put: look, lock table alone, lock part alone, put, end",
            "strike: look, lock part alone, lock table alone, strike, end")
        scene = (BOOK, {}, [("put", 3), ("strike", 3)])
        table = closed(protocol, scene)
        self.assertIn([0, 0, 1, 1], [sorted(row) for row in table])
        self.assert_closed(table, True, protocol, scene)
        self.assertIs(closed_by_words(protocol, scene, table), True)

    def test_by_words(self):
        # Lists of rows, most of which are none, in which one row of a small table is another one.
        scene = (read_catalog("a 0..5"), {}, [("strike", 3), ("direct", "b", 3)])
        protocol = rules("strike: look, strike, end", "direct: put, end")
        table, rows = closed(protocol, scene), all_rows(protocol, scene, 6)
        rng = random.Random(7)
        found = {True: 0, False: 0}
        for _ in range(150):
            other = rng.sample(table, len(table))
            other[rng.randrange(len(other))] = rng.choice(rows)
            told = closed_by_words(protocol, scene, other)
            self.assert_closed(other, told, protocol, scene)
            found[told] += 1
        self.assertGreater(min(found.values()), 5)

    def test_endings_of_a_closed_table(self):
        scene = (BOOK, {"a": [3]}, [("put", 3), ("join", "a", "b", "d")])
        table = closed(plain_protocol(), scene)
        start = opened(plain_protocol(), scene)
        states = [run(start, row)[0].state() for row in table]
        self.assertEqual(len(set(states)), len(states))
        before = observed(start)
        for ending in endings(start):
            self.assertIn(run(start, ending)[0].state(), states)
        self.assertEqual(observed(start), before)


if __name__ == "__main__":
    unittest.main()
