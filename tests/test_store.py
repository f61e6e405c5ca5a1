"""Tests of [5] and [71] to [73]: how stores are made, how sessions begin, and what is told of them."""

import unittest

from hungparts import store as store_file
from hungparts.catalogs import Catalog, read_catalog
from hungparts.protocols import Rulebook, plain_protocol
from hungparts.store import Store
from tests.helper import INTEGERS, KINDS, NAMES, SPANS, Case, every_value, observed, others, rules

METHODS = [
    "__init__", "protocol", "catalog", "edition", "__len__", "parts", "alive", "versions", "begin", "asked", "outcome",
    "next_step", "at_hand", "told", "due", "locks", "running", "settled", "holders", "waits_for", "can", "step", "copy",
    "state",
]
OF_NUMBERS = [
    "asked", "outcome", "next_step", "at_hand", "told", "due", "locks", "waits_for", "can", "step",
]
SESSIONS = [
    ("put", 3), ("strike", 3), ("read", 3), ("direct", "a", 3), ("hang", "x", (20, None)), ("take", "a"),
    ("split", "a", 5, "x", "y"), ("join", "a", "b", "x"),
]
BOOK = "a 0..10; b 10..20; rest c"


def plain_store(rows=None):
    """A store of the plain protocol."""
    return Store(plain_protocol(), read_catalog(BOOK), rows)


def no_sessions():
    """Values of every kind that are no sessions."""
    found = [*every_value(), "put 3", ("end",), ("put",), ("direct",), ("look", 3), ("key", 3)]
    for asked in SESSIONS:
        found.extend([list(asked), (*asked, 1), (*asked, "a"), asked[:-1], asked[1:], (asked,), [asked], str(asked)])
        found.extend([(word, *asked[1:]) for word in ("Put", "", None, 3, ["put"], ("put",), "claim")])
    for value in [*NAMES, *SPANS, *others()]:
        found.extend([("put", value), ("strike", value), ("read", value), ("direct", "a", value)])
        found.append(("split", "a", value, "x", "y"))
    for value in [*INTEGERS, *SPANS, *others()]:
        found.extend([("direct", value, 3), ("take", value), ("join", "a", "b", value), ("hang", value, (0, 1))])
    found.extend([("hang", "x", value) for value in [*INTEGERS, *NAMES, *others()]])
    return [*found, ("direct", 3, "a"), ("split", "a", 5, "x", "x"), ("join", "a", "a", "x"), ("put", "a", 3)]


class TestInterface(Case):

    def test_methods_stand_in_the_class_and_the_class_in_the_file(self):
        for name in METHODS:
            self.assertIn(name, vars(Store))
        for name in ("protocol", "catalog", "edition"):
            self.assertIsInstance(vars(Store)[name], property)
            with self.assertRaises(AttributeError):
                setattr(plain_store(), name, None)
        self.assertEqual(store_file.Store.__module__, "hungparts.store")

    def test_arguments_may_be_passed_by_name(self):
        store = Store(rows={"a": [3]}, catalog=read_catalog(BOOK), protocol=plain_protocol())
        self.assertEqual(store.begin(asked=("read", 3)), 0)
        self.assertEqual(store.step(number=0), "on")
        self.assertEqual([store.alive(part="a"), store.versions(part="a")], [[3], [(3, None, None)]])
        self.assertEqual([store.asked(number=0), store.outcome(number=0)], [("read", 3), "running"])
        self.assertEqual([store.next_step(number=0), store.at_hand(number=0)], [("lock", "table", "read"), "a"])
        self.assertEqual([store.told(number=0), store.due(number=0), store.locks(number=0)], [None, None, []])
        self.assertEqual([store.holders(thing="table"), store.waits_for(number=0), store.can(number=0)], [[], [], True])


class TestConstructor(Case):

    def test_what_is_no_protocol(self):
        for value in every_value():
            if not isinstance(value, Rulebook):
                self.assert_error("InvalidProtocol", value, Store, value, Catalog())
                self.assert_error("InvalidProtocol", value, Store, value, None, 5)

    def test_what_is_no_catalog(self):
        for value in every_value():
            if not isinstance(value, Catalog):
                self.assert_error("InvalidCatalog", value, Store, plain_protocol(), value)
                self.assert_error("InvalidCatalog", value, Store, plain_protocol(), value, 5)

    def test_rows_that_are_none(self):
        wrong = [{"A": []}, {1: [1]}, {"table": [1]}, {"x": [1, 1]}, {"x": [True]}, {"x": (1,)}, {"x": None},
            {"x": ["1"]}]
        values = [value for value in every_value() if value is not None and value != {}]
        for value in [*values, *wrong]:
            self.assert_error("InvalidRows", value, plain_store, value)

    def test_rows_that_the_catalog_does_not_give_to_their_part(self):
        for rows in (
            {"a": [10]}, {"a": [-1]}, {"a": [0, 9, 15]}, {"b": [9]}, {"b": [20]}, {"c": [0]}, {"c": [19]}, {"c": [5,
                30]},
            {"a": [1], "b": [11], "c": [11]}, {"x": [3], "a": [3, 30]},
        ):
            self.assert_error("InvalidRows", rows, plain_store, rows)
        rows = {"a": [5]}
        self.assert_error("InvalidRows", rows, Store, plain_protocol(), read_catalog("a 6..; b ..5"), rows)
        self.assert_error("InvalidRows", rows, Store, plain_protocol(), read_catalog("a 6..; b ..6; rest c"), rows)

    def test_rows_of_parts_and_of_loose_parts(self):
        store = plain_store({"c": [-1, 20], "x": [10, 3, -1], "a": [9, 0], "y": [], "b": []})
        self.assertEqual(store.parts(), ["a", "c", "x"])
        self.assertEqual([store.alive(part) for part in "abcxyz"], [[0, 9], [], [-1, 20], [-1, 3, 10], [], []])
        self.assertEqual(store.versions("x"), [(10, None, None), (3, None, None), (-1, None, None)])
        self.assertEqual([store.versions("b"), store.versions("z")], [[], []])
        self.assertEqual(Store(plain_protocol(), Catalog(), {"a": [5], "b": [5]}).parts(), ["a", "b"])

    def test_no_rows(self):
        for store in (plain_store(), plain_store(None), plain_store({}), plain_store({"a": []})):
            self.assertEqual([store.parts(), store.alive("a"), len(store)], [[], [], 0])

    def test_properties(self):
        store = plain_store()
        self.assertEqual(store.protocol, plain_protocol())
        self.assertIs(type(store.protocol), Rulebook)
        self.assertEqual([str(store.catalog), store.edition], [BOOK, 0])

    def test_later_changes_of_the_rows_have_no_effect(self):
        rows = {"a": [3], "x": [4]}
        store = plain_store(rows)
        rows["a"].append(5)
        del rows["x"]
        rows["b"] = [11]
        self.assertEqual([store.parts(), store.alive("a")], [["a", "x"], [3]])

    def test_arguments_are_not_modified(self):
        rows, book = {"x": [4], "a": [3]}, read_catalog(BOOK)
        store = Store(plain_protocol(), book, rows)
        store.begin(("take", "a"))
        store.begin(("put", 7))
        for number in (0, 0, 1, 1, 1, 1):
            store.step(number)
        self.assertEqual([str(store.catalog), str(book)], ["b 10..20; rest c", BOOK])
        self.assertEqual([rows, list(rows)], [{"x": [4], "a": [3]}, ["x", "a"]])


class TestBegin(Case):

    def test_sessions_of_all_kinds(self):
        store = plain_store()
        for number, asked in enumerate(SESSIONS):
            self.assertEqual(store.begin(asked), number)
            self.assertEqual(len(store), number + 1)
            self.assertEqual(store.asked(number), asked)
            self.assertEqual(store.outcome(number), "running")
            self.assertEqual(store.next_step(number), plain_protocol().program(asked[0])[0])
            self.assertEqual(store.at_hand(number), "a" if asked[0] == "direct" else None)
            self.assertEqual([store.told(number), store.due(number), store.locks(number)], [None, None, []])
        self.assertEqual([store.running(), store.settled()], [list(range(8)), []])

    def test_sessions_of_every_key_name_and_span(self):
        store = plain_store()
        for key in INTEGERS:
            for kind in ("put", "strike", "read"):
                store.begin((kind, key))
            store.begin(("direct", "x", key))
        for name in NAMES:
            store.begin(("direct", name, 3))
            store.begin(("take", name))
        for span in SPANS:
            store.begin(("hang", "x", span))
        self.assertEqual(len(store), 4 * len(INTEGERS) + 2 * len(NAMES) + len(SPANS))

    def test_changes_need_not_fit(self):
        store = plain_store()
        for asked in (("take", "z"), ("hang", "a", (0, 5)), ("split", "c", 99, "a", "b"), ("join", "b", "a", "c")):
            store.begin(asked)
        self.assertEqual(len(store), 4)

    def test_values_that_are_no_sessions(self):
        store, bare = plain_store(), Store(rules(), Catalog())
        for value in no_sessions():
            self.assert_error("InvalidSession", value, store.begin, value)
            self.assert_error("InvalidSession", value, bare.begin, value)
        self.assertEqual([len(store), len(bare)], [0, 0])

    def test_kinds_without_a_program(self):
        for kind, asked in zip(KINDS, SESSIONS):
            program = plain_protocol().program(kind)
            alone = Store(Rulebook(plain_protocol().strengths, {kind: program}), Catalog())
            for other in SESSIONS:
                if other[0] == kind:
                    self.assertEqual(alone.begin(other), 0)
                else:
                    self.assert_error("NoProgram", other[0], alone.begin, other)
            self.assertEqual(len(alone), 1)

    def test_what_is_told_of_a_session_while_it_runs_and_when_it_is_done(self):
        store = plain_store({"a": [3]})
        store.begin(("read", 3))
        steps = plain_protocol().program("read")
        expected = [
            (None, None, None, []), ("a", None, None, []), ("a", None, None, [("table", "read")]),
            ("a", None, None, [("table", "read")]), ("a", None, 1, [("table", "read")]), ("a", 1, 1, [("table",
                "read")]),
        ]
        for step, (hand, told, due, locks) in zip(steps, expected):
            self.assertEqual([store.next_step(0), store.outcome(0)], [step, "running"])
            self.assertEqual([store.at_hand(0), store.told(0), store.due(0), store.locks(0)], [hand, told, due, locks])
            self.assertEqual([store.running(), store.settled()], [[0], []])
            store.step(0)
        self.assertEqual([store.next_step(0), store.outcome(0), store.asked(0)], [None, "done", ("read", 3)])
        self.assertEqual([store.at_hand(0), store.told(0), store.due(0), store.locks(0)], ["a", 1, 1, []])
        self.assertEqual([store.running(), store.settled()], [[], [0]])

    def test_what_is_told_of_a_session_that_is_refused(self):
        store = plain_store({"a": [3]})
        store.begin(("put", 3))
        results = [store.step(0) for _ in range(4)]
        self.assertEqual(results, ["on", "on", "on", "refused"])
        self.assertEqual([store.next_step(0), store.outcome(0), store.asked(0)], [None, "refused", ("put", 3)])
        self.assertEqual([store.at_hand(0), store.told(0), store.due(0), store.locks(0)], ["a", None, None, []])
        self.assertEqual([store.running(), store.settled(), store.can(0)], [[], [], False])

    def test_a_direct_keeps_its_part(self):
        store = plain_store()
        store.begin(("direct", "b", 3))
        self.assertEqual([store.step(0), store.step(0)], ["on", "refused"])
        self.assertEqual(store.at_hand(0), "b")

    def test_what_is_no_number_of_a_session(self):
        store = plain_store()
        wrong = [value for value in every_value() if isinstance(value, bool) or not isinstance(value, int)]
        for many in range(3):
            before = observed(store)
            for name in OF_NUMBERS:
                for value in [*wrong, -1, many, many + 1, -many - 1, True, False, "0", [0], (0,), 10 ** 29]:
                    self.assert_error("InvalidNumber", value, getattr(store, name), value)
            self.assertEqual(observed(store), before)
            store.begin(("put", 3))

    def test_locks_and_holders(self):
        store = Store(rules(
            "put: lock table write, lock table read, lock table read, look, lock part read, lock part share, put, end",
            "take: lock table read, lock rest read, lock old read, close",
        ), read_catalog(BOOK))
        store.begin(("put", 3))
        store.begin(("take", "a"))
        for number in (0, 0, 0, 0, 0, 1, 1, 1, 0):
            store.step(number)
        self.assertEqual(store.locks(0), [("a", "read"), ("a", "share"), ("table", "read"), ("table", "write")])
        self.assertEqual(store.locks(1), [("a", "read"), ("c", "read"), ("table", "read")])
        self.assertEqual(store.holders("table"), [(0, "read"), (0, "write"), (1, "read")])
        self.assertEqual(store.holders("a"), [(0, "read"), (0, "share"), (1, "read")])
        self.assertEqual([store.holders("c"), store.holders("b"), store.holders("zz")], [[(1, "read")], [], []])
        for value in every_value():
            if value not in ("a", "table"):
                self.assertEqual(store.holders(value), [])
        store.step(1)
        self.assertEqual([store.locks(1), store.holders("c"), store.holders("table")], [
            [], [], [(0, "read"), (0, "write")]])

    def test_lists_that_were_returned_may_be_changed(self):
        store = plain_store({"a": [3]})
        store.begin(("put", 4))
        store.begin(("take", "b"))
        for number in (0, 0):
            store.step(number)
        before = observed(store)
        for row in (
            store.parts(), store.alive("a"), store.versions("a"), store.locks(0), store.running(), store.settled(),
            store.holders("table"), store.waits_for(1),
        ):
            row.append("x")
            row[0] = "y"
        self.assertEqual(observed(store), before)


if __name__ == "__main__":
    unittest.main()
