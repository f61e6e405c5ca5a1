"""Tests of [151] to [153]: a desk, its open store, undo and redo, and trials."""

import random
import unittest

from hungparts import desk as module
from hungparts import errors
from hungparts.catalogs import Catalog, read_catalog
from hungparts.desk import Desk
from hungparts.errors import InvalidNumber, PartsError
from hungparts.events import Watch
from hungparts.protocols import Rulebook, plain_protocol
from hungparts.store import Store
from hungparts.strengths import standard
from tests.helper import BARE, Case, every_value, observed, rules
from tests.test_events import random_session

BOOK = read_catalog("a 0..10; b 10..20; rest c")
NOTHING = Rulebook(standard(), {})


def seen(desk):
    """All that a desk tells, but for what can be undone."""
    names = desk.names()
    try:
        store = [observed(desk.store()), desk.store().state(), desk.events()]
    except errors.NoStore:
        store = None
    return [names, [str(desk.entry(name)) for name in names], len(desk), store]


def all_seen(desk):
    """All that a desk tells."""
    return [*seen(desk), desk.undos, desk.redos]


def filled():
    """A desk with two protocols and an open store."""
    desk = Desk()
    desk.put("bare", rules(*BARE))
    desk.put("plain", plain_protocol())
    desk.start("bare", BOOK, {"a": [3]})
    return desk


class TestEntries(Case):

    def test_put_drop_and_entry(self):
        desk = Desk()
        self.assertEqual([desk.names(), len(desk), "a" in desk], [[], 0, False])
        self.assertIsNone(desk.put("b", plain_protocol()))
        self.assertIsNone(desk.put(name="a", protocol=NOTHING))
        self.assertEqual([desk.names(), len(desk), "a" in desk, "c" in desk], [["a", "b"], 2, True, False])
        self.assertEqual([desk.entry("b"), desk.entry(name="a")], [plain_protocol(), NOTHING])
        self.assertIsNone(desk.drop("b"))
        self.assertEqual([desk.names(), len(desk), "b" in desk], [["a"], 1, False])
        self.assertIsNone(desk.drop(name="a"))
        self.assertEqual([desk.names(), len(desk)], [[], 0])

    def test_twelve_and_one_more(self):
        desk = Desk()
        for name in "lkjihgfedcba":
            desk.put(name, NOTHING)
        self.assertEqual(desk.names(), list("abcdefghijkl"))
        before = all_seen(desk)
        self.assert_error("TooMany", 12, desk.put, "m", NOTHING)
        self.assert_error("NameTaken", "a", desk.put, "a", NOTHING)
        self.assertEqual(all_seen(desk), before)
        desk.drop("c")
        desk.put("m", NOTHING)
        self.assertEqual(len(desk), 12)
        self.assert_error("TooMany", 12, desk.put, "c", NOTHING)

    def test_exceptions_in_their_order(self):
        desk = filled()
        before = all_seen(desk)
        for value in every_value():
            if not (isinstance(value, str) and value.isascii() and value.isalpha() and value.islower() and
                    len(value) < 9 and value != "table"):
                self.assert_error("InvalidName", value, desk.put, value, None)
            if not isinstance(value, Rulebook):
                self.assert_error("InvalidProtocol", value, desk.put, "plain", value)
                self.assert_error("InvalidProtocol", value, desk.put, "new", value)
            for call in (desk.drop, desk.entry):
                self.assert_error("UnknownEntry", value, call, value)
            self.assertIs(value in desk, False)
        self.assert_error("NameTaken", "plain", desk.put, "plain", NOTHING)
        self.assertEqual(all_seen(desk), before)

    def test_lists_that_were_told(self):
        desk = filled()
        desk.names().clear()
        self.assertEqual(desk.names(), ["bare", "plain"])

    def test_what_stands_in_the_class(self):
        self.assertEqual(Desk.__module__, "hungparts.desk")
        for name in ("put", "drop", "entry", "names", "__len__", "__contains__", "start", "begin", "step", "finish",
        "store",
                "events", "undo", "redo", "undos", "redos", "trial", "run", "run_all"):
            self.assertIn(name, vars(module.Desk))


class TestOpenStore(Case):

    def test_no_store(self):
        desk = Desk()
        desk.put("plain", plain_protocol())
        for call, more in (
                (desk.begin, [None]), (desk.step, [None]), (desk.finish, []), (desk.store, []), (desk.events, [])):
            with self.assertRaises(errors.NoStore):
                call(*more)
        self.assertEqual([desk.undos, desk.redos], [1, 0])

    def test_begin_step_and_events(self):
        desk = filled()
        self.assertEqual(desk.begin(asked=("put", 3)), 0)
        self.assertEqual([desk.step(number=0), desk.step(0), desk.step(0)], [[], [], [("twice", 3, 0)]])
        self.assertEqual([desk.events(), desk.store().alive("a")], [[("twice", 3, 0)], [3, 3]])
        self.assertEqual([desk.begin(("direct", "b", 5)), desk.step(1), desk.step(1)], [1, [], [("outside", 5, 1)]])
        self.assertEqual(desk.events(), [("twice", 3, 0), ("outside", 5, 1)])

    def test_start_in_the_place_of_another_store(self):
        desk = filled()
        desk.begin(("direct", "b", 3))
        desk.finish()
        self.assertEqual(len(desk.events()), 2)
        self.assertIsNone(desk.start(name="plain", catalog=Catalog(rest="r"), rows={"r": [1]}))
        self.assertEqual([desk.events(), len(desk.store()), desk.store().alive("r")], [[], 0, [1]])
        self.assertEqual(desk.store().protocol, plain_protocol())
        desk.start("plain", Catalog())
        self.assertEqual(desk.store().parts(), [])

    def test_exceptions_of_start(self):
        desk = filled()
        before = all_seen(desk)
        for value in every_value():
            self.assert_error("UnknownEntry", value, desk.start, value, None, 7)
            if not isinstance(value, Catalog):
                self.assert_error("InvalidCatalog", value, desk.start, "plain", value, 7)
        for rows in (7, {"b": [3]}, {"a": [3, 3]}, [], {"A": [3]}):
            self.assert_error("InvalidRows", rows, desk.start, "plain", BOOK, rows)
        self.assertEqual(all_seen(desk), before)

    def test_exceptions_of_begin_and_step(self):
        desk = filled()
        desk.start("plain", BOOK)
        desk.begin(("put", 3))
        desk.begin(("take", "a"))
        desk.begin(("put", 4))
        for number in (0, 0, 2, 2, 2, 2, 2):
            desk.step(number)
        before = all_seen(desk)
        for value in every_value():
            self.assert_error("InvalidSession", value, desk.begin, value)
            if type(value) is not int or value not in range(3):
                self.assert_error("InvalidNumber", value, desk.step, value)
        self.assert_error("Ended", 2, desk.step, 2)
        self.assert_error("Waiting", 1, desk.step, 1)
        desk.drop("plain")
        desk.put("plain", rules("put: look, put, end"))
        desk.start("plain", BOOK)
        self.assert_error("NoProgram", "take", desk.begin, ("take", "a"))
        for _ in range(3):
            desk.undo()
        self.assertEqual(all_seen(desk)[:5], before[:5])

    def test_finish(self):
        desk = filled()
        self.assertEqual(desk.finish(), [])
        desk.begin(("put", 4))
        desk.begin(("strike", 3))
        self.assertEqual([desk.step(1), desk.finish(), desk.finish()], [[], [0, 0, 0, 1, 1], []])
        # Always the least number that is ready, also where one has to wait.
        desk.start("plain", BOOK)
        for asked in (("put", 3), ("take", "a"), ("put", 3)):
            desk.begin(asked)
        self.assertEqual([desk.step(1), desk.step(2)], [[], []])
        self.assertEqual(desk.finish(), [0, 1] + [0] * 7 + [2] * 6)
        self.assertEqual([desk.store().alive("c"), desk.store().outcome(2)], [[3], "refused"])

    def test_finish_with_events_and_sessions_that_are_stuck(self):
        desk = filled()
        for asked in (("take", "a"), ("put", 3), ("direct", "b", 4)):
            desk.begin(asked)
        desk.step(1)
        desk.finish()
        self.assertEqual(desk.events(), [("missed", 3, 1), ("outside", 4, 2)])
        desk.put("crossed", rules("put: look, lock table alone, lock part alone, put, end",
            "strike: look, lock part alone, lock table alone, strike, end"))
        desk.start("crossed", BOOK)
        desk.begin(("put", 3))
        desk.begin(("strike", 3))
        self.assertEqual([desk.step(number) for number in (0, 1, 0, 1)], [[]] * 4)
        undos = desk.undos
        self.assertEqual([desk.finish(), desk.store().running(), desk.undos], [[], [0, 1], undos + 1])

    def test_protocols_that_are_dropped_or_put_anew(self):
        desk = filled()
        desk.begin(("put", 3))
        desk.drop("bare")
        desk.put("bare", NOTHING)
        self.assertEqual(desk.begin(("strike", 3)), 1)
        self.assertEqual(desk.finish(), [0] * 3 + [1] * 3)
        self.assertEqual(desk.store().protocol, rules(*BARE))

    def test_what_was_passed_and_told(self):
        rows = {"a": [3]}
        desk = Desk()
        desk.put("bare", rules(*BARE))
        desk.start("bare", BOOK, rows)
        rows["a"].append(4)
        desk.store().begin(("put", 3))
        desk.begin(("direct", "b", 3))
        desk.step(0)
        desk.step(0).clear()
        desk.events().clear()
        desk.finish().append(7)
        self.assertEqual([desk.store().alive("a"), len(desk.store()), desk.events()], [
            [3], 1, [("outside", 3, 0), ("twice", 3, 0)]])

    def test_copies_of_the_store_go_on_by_themselves(self):
        desk = filled()
        desk.begin(("put", 4))
        store = desk.store()
        desk.finish()
        self.assertEqual([store.alive("a"), store.step(0), store.alive("a")], [[3], "on", [3]])
        self.assertEqual(desk.store().alive("a"), [3, 4])

    def test_as_a_watch_does(self):
        rng = random.Random(152)
        for _ in range(20):
            desk = filled()
            watch = Watch(Store(rules(*BARE), BOOK, {"a": [3]}))
            for _ in range(30):
                able = watch.ready()
                if able and rng.random() < 0.7:
                    number = rng.choice(able)
                    self.assertEqual(desk.step(number), watch.step(number))
                else:
                    asked = random_session(rng, watch.watched().catalog)
                    self.assertEqual(desk.begin(asked), watch.begin(asked))
            self.assertEqual([desk.store().state(), desk.events()], [watch.state(), watch.events()])
            turns = []
            while watch.ready():
                turns.append(watch.ready()[0])
                watch.step(turns[-1])
            self.assertEqual([desk.finish(), desk.events()], [turns, watch.events()])


CHANGES = [
    lambda desk: desk.put("new", NOTHING), lambda desk: desk.drop("plain"), lambda desk: desk.start("bare", BOOK),
    lambda desk: desk.begin(("direct", "b", 3)), lambda desk: desk.step(0), lambda desk: desk.step(0),
    lambda desk: desk.finish(), lambda desk: desk.begin(("put", 5)), lambda desk: desk.finish(),
]


class TestUndo(Case):

    def test_each_kind_of_change(self):
        desk = filled()
        told = [all_seen(desk)]
        for at, change in enumerate(CHANGES):
            change(desk)
            self.assertEqual([desk.undos, desk.redos], [4 + at, 0])
            told.append(all_seen(desk))
        for at in reversed(range(len(CHANGES))):
            self.assertIsNone(desk.undo())
            self.assertEqual(seen(desk), told[at][:4])
            self.assertEqual([desk.undos, desk.redos], [3 + at, len(CHANGES) - at])
        for at in range(len(CHANGES)):
            self.assertIsNone(desk.redo())
            self.assertEqual(seen(desk), told[at + 1][:4])
            self.assertEqual([desk.undos, desk.redos], [4 + at, len(CHANGES) - at - 1])
        self.assertEqual(all_seen(desk), told[-1])

    def test_to_the_beginning(self):
        desk = filled()
        for _ in range(3):
            desk.undo()
        self.assertEqual(all_seen(desk), [[], [], 0, None, 0, 3])
        with self.assertRaises(errors.NothingToUndo):
            desk.undo()
        for _ in range(3):
            desk.redo()
        with self.assertRaises(errors.NothingToRedo):
            desk.redo()
        self.assertEqual(all_seen(desk), all_seen(filled()))

    def test_nothing_to_undo_or_redo(self):
        desk = Desk()
        with self.assertRaises(errors.NothingToUndo):
            desk.undo()
        with self.assertRaises(errors.NothingToRedo):
            desk.redo()
        self.assertEqual([desk.undos, desk.redos], [0, 0])
        desk.put("a", NOTHING)
        with self.assertRaises(errors.NothingToRedo):
            desk.redo()

    def test_a_change_between_an_undo_and_a_redo(self):
        for change in (lambda desk: desk.put("x", NOTHING), lambda desk: desk.finish(), lambda desk: desk.begin(("put",
        9))):
            desk = filled()
            desk.begin(("put", 5))
            desk.undo()
            self.assertEqual([desk.undos, desk.redos], [3, 1])
            change(desk)
            self.assertEqual([desk.undos, desk.redos], [4, 0])
            with self.assertRaises(errors.NothingToRedo):
                desk.redo()

    def test_what_is_no_change(self):
        desk = filled()
        desk.begin(("put", 5))
        desk.undo()
        desk.names(), desk.store(), desk.events(), desk.entry("bare"), len(desk), "x" in desk
        for call in (
                lambda: desk.put("bare", NOTHING), lambda: desk.drop("x"), lambda: desk.start("x", BOOK),
                lambda: desk.begin(7), lambda: desk.step(0)):
            with self.assertRaises(PartsError):
                call()
        self.assertEqual([desk.undos, desk.redos], [3, 1])
        desk.redo()
        self.assertEqual(len(desk.store()), 1)

    def test_a_finish_that_does_nothing(self):
        desk = filled()
        desk.begin(("put", 5))
        desk.finish()
        self.assertEqual([desk.finish(), desk.undos], [[], 6])
        desk.undo()
        self.assertEqual([desk.store().running(), desk.undos, desk.redos], [[], 5, 1])
        desk.undo()
        self.assertEqual([desk.store().running(), desk.undos, desk.redos], [[0], 4, 2])

    def test_the_open_store_comes_back(self):
        desk = filled()
        desk.begin(("direct", "b", 5))
        desk.finish()
        desk.start("plain", Catalog())
        desk.undo()
        self.assertEqual([str(desk.store().catalog), desk.events()], [str(BOOK), [("outside", 5, 0)]])
        desk.undo()
        self.assertEqual(desk.events(), [])
        self.assertEqual(desk.step(0), [])
        self.assertEqual(desk.step(0), [("outside", 5, 0)])

    def test_at_random(self):
        rng = random.Random(153)
        for _ in range(30):
            desk, past, future = Desk(), [], []
            for _ in range(60):
                before = seen(desk)
                deed = rng.choice(["undo", "redo", "undo", "put", "drop", "start", "begin", "step", "finish", "begin"])
                try:
                    {
                        "undo": desk.undo, "redo": desk.redo, "finish": desk.finish,
                        "put": lambda: desk.put(rng.choice("abc"), rules(*BARE)),
                        "drop": lambda: desk.drop(rng.choice("abc")),
                        "start": lambda: desk.start(rng.choice("abc"), BOOK, {"a": [3]}),
                        "begin": lambda: desk.begin(random_session(rng, BOOK)),
                        "step": lambda: desk.step(rng.randrange(3)),
                    }[deed]()
                except PartsError:
                    self.assertEqual(seen(desk), before)
                    continue
                if deed == "undo":
                    future.append(before)
                    self.assertEqual(seen(desk), past.pop())
                elif deed == "redo":
                    past.append(before)
                    self.assertEqual(seen(desk), future.pop())
                else:
                    past, future = [*past, before], []
                self.assertEqual([desk.undos, desk.redos], [len(past), len(future)])


class Odd(Exception):
    """An exception that is none of the package."""


def raise_odd(desk):
    """Change a desk, and raise an exception."""
    desk.put("x", NOTHING)
    desk.undo()
    desk.undo()
    raise Odd(desk.undos)


class TestTrial(Case):

    def test_what_is_returned(self):
        desk = filled()
        desk.begin(("put", 3))
        desk.undo()
        before = all_seen(desk)

        def deed(here):
            self.assertIs(here, desk)
            here.begin(("direct", "b", 3))
            here.finish()
            here.drop("plain")
            return here.events(), here.names(), here.undos, here.redos
        self.assertEqual(desk.trial(deed), ([("outside", 3, 0), ("twice", 3, 0)], ["bare"], 6, 0))
        self.assertEqual(all_seen(desk), before)
        self.assertIsNone(desk.trial(deed=lambda here: here.undo()))
        self.assertEqual(all_seen(desk), before)
        desk.redo()
        self.assertEqual(len(desk.store()), 1)

    def test_all_changes(self):
        desk = filled()
        for change in CHANGES:
            before = all_seen(desk)
            for many in range(4):
                desk.trial(lambda here: [here.undo() for _ in range(min(many, here.undos))])
                desk.trial(change)
            self.assertEqual(all_seen(desk), before)
            change(desk)

    def test_exceptions_go_on(self):
        desk = filled()
        before = all_seen(desk)
        for deed, error in (
                (raise_odd, Odd), (lambda here: here.step(7), InvalidNumber), (lambda here: here.undo() or [][1],
                IndexError),
                (lambda here: [here.undo() for _ in range(9)], errors.NothingToUndo)):
            with self.assertRaises(error):
                desk.trial(deed)
            self.assertEqual(all_seen(desk), before)
        try:
            desk.trial(raise_odd)
        except Odd as error:
            self.assertEqual(error.args, (2,))

    def test_trials_within_trials(self):
        desk = filled()
        before = all_seen(desk)

        def outer(here):
            here.begin(("put", 4))
            inner = all_seen(here)
            told = here.trial(lambda again: [again.finish(), again.undo(), again.undo(), again.undos])
            self.assertEqual(all_seen(here), inner)
            with self.assertRaises(Odd):
                here.trial(raise_odd)
            self.assertEqual(all_seen(here), inner)
            here.finish()
            return told, here.undos
        self.assertEqual(desk.trial(outer), ([[0, 0, 0], None, None, 3], 5))
        self.assertEqual(all_seen(desk), before)

    def test_changes_behind_a_trial(self):
        desk = filled()
        desk.trial(lambda here: here.start("plain", Catalog()))
        desk.begin(("direct", "b", 4))
        self.assertEqual([desk.finish(), desk.events(), desk.undos], [[0, 0], [("outside", 4, 0)], 5])
        desk.undo()
        desk.undo()
        self.assertEqual(all_seen(desk)[:4], seen(filled()))


if __name__ == "__main__":
    unittest.main()
