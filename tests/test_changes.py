"""Tests of [3] and [31] to [35]: changes, the catalogs behind them, and the ways between catalogs."""

import itertools
import unittest

from hungparts import changes
from hungparts.catalogs import Catalog, read_catalog
from hungparts.changes import carry, changed, fits, is_change, moved, reverse, roles, way_between
from tests.helper import (
    BIG, INTEGERS, NAMES, SMALL_KEYS, SPANS, Case, every_value, keys_of, others, small_books,
)

FUNCTIONS = ["is_change", "roles", "changed", "fits", "reverse", "moved", "carry", "way_between"]
SEVEN = {name: (at, at + 1) for at, name in enumerate("abcdefg")}
EIGHT = {**SEVEN, "h": (7, 8)}

CHANGES = [
    ("hang", "a", (0, 5)), ("hang", "hang", (None, None)), ("hang", "abcdefgh", (-BIG, BIG)), ("hang", "z", (None, 0)),
    ("take", "a"), ("take", "take"), ("take", "rest"),
    ("split", "a", 5, "b", "c"), ("split", "c", -BIG, "b", "a"), ("split", "split", 0, "left", "right"),
    ("join", "a", "b", "c"), ("join", "c", "b", "a"), ("join", "join", "ab", "abc"),
]


def bad_forms():
    """Values that are no changes because of their form or their first item."""
    found = []
    for change in CHANGES:
        found.extend([list(change), (*change, "x"), (*change, None), (*change, 3), change[1:], (change,), [change]])
        found.extend([change[:at] + change[at + 1:] for at in range(1, len(change))])
        found.extend([(word, *change[1:]) for word in ("Hang", "put", "", "hang ", None, 1, True, ("hang",), ["hang"])])
        found.extend([str(change), dict(enumerate(change)), change[:1], (change[0], change[1:])])
    swapped = [("take", "a", (0, 5)), ("hang", "a"), ("join", "a", 5, "b", "c"), ("split", "a", "b", "c")]
    return [*found, (), ("hang",), ("take",), ("read", 5), ("put", 5), ("strike", 5), ("direct", "a", 5), *swapped]


def bad_items():
    """Values that have the form of changes, but a name, a key or a span in them is none, or names are the same."""
    found = []
    for value in [*INTEGERS, *SPANS, *others()]:
        found.extend([("hang", value, (0, 5)), ("take", value)])
        found.extend([("split", value, 5, "b", "c"), ("split", "a", 5, value, "c"), ("split", "a", 5, "b", value)])
        found.extend([("join", value, "b", "c"), ("join", "a", value, "c"), ("join", "a", "b", value)])
    found.extend([("hang", "a", value) for value in [*INTEGERS, *NAMES, *others()]])
    found.extend([("split", "a", value, "b", "c") for value in [*NAMES, *SPANS, *others()]])
    for one, other, third in [("a", "a", "b"), ("a", "b", "a"), ("b", "a", "a"), ("a", "a", "a")]:
        found.extend([("split", one, 5, other, third), ("join", one, other, third)])
    return found


def by_definition(spans, rest, change):
    """What [32] tells of a change: the name of an exception and its field, or None and the spans behind it."""
    kind, *items = change
    old = {"hang": [], "take": items[:1], "split": items[:1], "join": items[:2]}[kind]
    new = {"hang": items[:1], "take": [], "split": items[2:], "join": items[2:]}[kind]
    for name in old:
        if name not in spans:
            return "UnknownPart", name
    for name in new:
        if name in spans or name == rest:
            return "NameTaken", name
    behind = {name: span for name, span in spans.items() if name not in old}
    if kind == "hang":
        for name in sorted(spans):
            if set(keys_of(spans[name], SMALL_KEYS)) & set(keys_of(items[1], SMALL_KEYS)):
                return "Overlap", name
        behind[items[0]] = items[1]
    if kind == "split":
        low, high = spans[items[0]]
        if not ((low is None or low < items[1]) and (high is None or items[1] < high)):
            return "NotInside", items[1]
        behind[items[2]], behind[items[3]] = (low, items[1]), (items[1], high)
    if kind == "join":
        one, other = spans[items[0]], spans[items[1]]
        if one[1] is None or other[0] is None or one[1] != other[0]:
            return "NotNeighbours", items[1]
        behind[items[2]] = (one[0], other[1])
    return None, behind


def small_changes():
    """Many changes of small catalogs, whose parts are a, b, c and the rest part aa or rest."""
    found = []
    for name in ("a", "c", "d", "aa", "rest"):
        found.extend([("hang", name, span) for span in [(None, None), (None, 0), (1, 2), (0, 3), (3, None), (-2, -1)]])
        found.append(("take", name))
        found.extend([("split", name, at, "x", "y") for at in range(-1, 5)])
        found.extend([("join", one, name, "d") for one in ("a", "b", "c", "aa") if one != name and name != "d"])
    found.extend([("split", "a", 1, "b", "d"), ("split", "a", 2, "d", "c"), ("split", "b", 1, "aa", "e")])
    found.extend([("split", "b", 2, "e", "rest"), ("join", "a", "b", "c"), ("join", "b", "a", "c")])
    return [*found, ("join", "a", "b", "aa"), ("join", "b", "c", "rest")]


class TestInterface(Case):

    def test_functions_stand_in_the_file(self):
        for name in FUNCTIONS:
            self.assertEqual(getattr(changes, name).__module__, "hungparts.changes")

    def test_arguments_may_be_passed_by_name(self):
        book, change = Catalog({"a": (0, 10)}), ("take", "a")
        self.assertIs(is_change(value=change), True)
        self.assertEqual(roles(change=change), (["a"], []))
        self.assertEqual(changed(change=change, catalog=book), Catalog())
        self.assertIs(fits(change=change, catalog=book), True)
        self.assertEqual(reverse(change=change, catalog=book), ("hang", "a", (0, 10)))
        self.assertEqual(moved(other=book, one=Catalog()), [(0, 10, None, "a")])
        self.assertEqual(carry(changes=[change], catalog=book), Catalog())
        self.assertEqual(way_between(other=book, one=Catalog()), [("hang", "a", (0, 10))])

    def test_the_example_of_the_document(self):
        book = Catalog({"a": (0, 10)})
        change = ("split", "a", 5, "b", "c")
        found = [str(changed(book, change)), reverse(book, change), moved(book, Catalog())]
        self.assertEqual(found, ["b 0..5; c 5..10", ("join", "b", "c", "a"), [(0, 10, "a", None)]])


class TestWhatChangesAre(Case):

    def test_changes(self):
        for change in CHANGES:
            self.assertIs(is_change(change), True, change)

    def test_changes_with_names_keys_and_spans_of_every_kind(self):
        for name in NAMES:
            for span in SPANS:
                self.assertIs(is_change(("hang", name, span)), True)
            self.assertIs(is_change(("take", name)), True)
            for key in INTEGERS:
                self.assertIs(is_change(("split", name, key, "q", "p")), True)
            self.assertIs(is_change(("join", "q", name, "p")), True)

    def test_values_that_are_no_changes(self):
        for value in [*bad_forms(), *bad_items(), *every_value()]:
            self.assertIs(is_change(value), False, value)

    def test_three_names_that_are_equal_in_pairs(self):
        for names in itertools.product("ab", repeat=3):
            self.assertIs(is_change(("join", *names)), False)
            self.assertIs(is_change(("split", names[0], 5, *names[1:])), False)

    def test_truth_values_are_no_keys(self):
        for value in (True, False):
            self.assertIs(is_change(("split", "a", value, "b", "c")), False)

    def test_roles(self):
        self.assertEqual(roles(("hang", "a", (0, 5))), ([], ["a"]))
        self.assertEqual(roles(("take", "a")), (["a"], []))
        self.assertEqual(roles(("split", "b", 5, "c", "a")), (["b"], ["c", "a"]))
        self.assertEqual(roles(("join", "c", "b", "a")), (["c", "b"], ["a"]))
        for change in CHANGES:
            self.assertIs(type(roles(change)), tuple)
            self.assertEqual([type(part) for part in roles(change)], [list, list])

    def test_lists_that_were_returned_may_be_changed(self):
        for change in CHANGES:
            before = ([*roles(change)[0]], [*roles(change)[1]])
            for row in roles(change):
                row.append("x")
            self.assertEqual(roles(change), before)

    def test_the_very_value_is_told(self):
        book = Catalog({"a": (0, 10)})
        for value in [*bad_forms(), *bad_items(), *every_value()]:
            self.assert_error("InvalidChange", value, roles, value)
            self.assert_error("InvalidChange", value, changed, book, value)
            self.assert_error("InvalidChange", value, fits, book, value)
            self.assert_error("InvalidChange", value, reverse, book, value)
            self.assert_error("InvalidChange", value, carry, book, [value])

    def test_the_catalog_is_looked_at_before_the_change(self):
        for value in every_value():
            if not isinstance(value, Catalog):
                for function in (changed, fits, reverse):
                    self.assert_error("InvalidCatalog", value, function, value, ("take", "a"))
                    self.assert_error("InvalidCatalog", value, function, value, value)


class TestChanged(Case):

    def test_all_small_changes_of_small_catalogs(self):
        for spans, rest in small_books()[::5]:
            catalog = Catalog(spans, rest=rest)
            text = str(catalog)
            for change in small_changes():
                self.check_change(catalog, change, *by_definition(spans, rest, change))
            self.assertEqual(str(catalog), text)

    def check_change(self, catalog, change, error, told):
        """The change leads to the spans that are told and back, or all functions raise the error."""
        self.assertIs(fits(catalog, change), error is None)
        if error is None:
            behind = changed(catalog, change)
            self.assertEqual(behind, Catalog(told, rest=catalog.rest))
            self.assertEqual(changed(behind, reverse(catalog, change)), catalog)
        else:
            self.assert_error(error, told, changed, catalog, change)
            self.assert_error(error, told, reverse, catalog, change)
            self.assert_error(error, told, carry, catalog, [change])

    def test_hang_and_take(self):
        book = read_catalog("b 0..10; rest c")
        self.assertEqual(str(changed(book, ("hang", "a", (10, None)))), "a 10..; b 0..10; rest c")
        self.assertEqual(str(changed(book, ("take", "b"))), "rest c")
        self.assertEqual(str(changed(Catalog(), ("hang", "a", (None, None)))), "a ..")

    def test_a_split_of_spans_without_limits(self):
        for text, behind in {
            "a ..": "b ..5; c 5..", "a 0..": "b 0..5; c 5..", "a ..10": "b ..5; c 5..10", "a 4..6": "b 4..5; c 5..6",
            "a ..; rest d": "b ..5; c 5..; rest d",
        }.items():
            book = read_catalog(text)
            self.assertEqual(str(changed(book, ("split", "a", 5, "b", "c"))), behind)
            self.assertEqual(reverse(book, ("split", "a", 5, "b", "c")), ("join", "b", "c", "a"))

    def test_a_split_at_a_limit_or_beyond(self):
        for text, keys in {"a 4..6": [3, 4, 6, 7], "a 4..": [3, 4, -BIG], "a ..6": [6, 7, BIG], "a 4..5": [4,
            5]}.items():
            for at in keys:
                self.assert_error("NotInside", at, changed, read_catalog(text), ("split", "a", at, "b", "c"))

    def test_a_join_of_spans_without_limits(self):
        for text, behind in {
            "a ..5; b 5..": "c ..", "a 0..5; b 5..": "c 0..", "a ..5; b 5..6": "c ..6", "a 4..5; b 5..6": "c 4..6",
        }.items():
            book = read_catalog(text)
            self.assertEqual(str(changed(book, ("join", "a", "b", "c"))), behind)
            self.assertEqual(reverse(book, ("join", "a", "b", "c")), ("split", "c", 5, "a", "b"))

    def test_a_join_of_parts_that_are_no_neighbours(self):
        for text in ("a 0..5; b 6..7", "a 5..6; b 0..5", "a 5..; b ..5", "a 5..; b ..3", "a ..5; b 6..",
            "a 5..6; b ..5"):
            self.assert_error("NotNeighbours", "b", changed, read_catalog(text), ("join", "a", "b", "c"))

    def test_a_rest_part_is_no_old_part(self):
        book = read_catalog("a 0..5; b 5..10; rest r")
        for change in (("take", "r"), ("split", "r", 20, "c", "d"), ("join", "r", "a", "c"), ("join", "a", "r", "c")):
            self.assert_error("UnknownPart", "r", changed, book, change)
            self.assert_error("UnknownPart", "r", reverse, book, change)

    def test_a_new_part_whose_name_the_rest_part_has(self):
        book = read_catalog("a 0..5; b 5..10; rest r")
        for change in (
            ("hang", "r", (20, 30)), ("split", "a", 3, "r", "c"), ("split", "a", 3, "c", "r"), ("join", "a", "b", "r"),
        ):
            self.assert_error("NameTaken", "r", changed, book, change)

    def test_a_new_part_that_bears_the_name_of_another_old_one(self):
        book = read_catalog("a 0..5; b 5..10; c 10..15")
        self.assert_error("NameTaken", "b", changed, book, ("split", "a", 3, "b", "c"))
        self.assert_error("NameTaken", "c", changed, book, ("split", "a", 3, "d", "c"))
        self.assert_error("NameTaken", "c", changed, book, ("join", "a", "b", "c"))
        for change in (("split", "a", 3, "a", "d"), ("split", "a", 3, "d", "a"), ("join", "a", "b", "b")):
            self.assert_error("InvalidChange", change, changed, book, change)

    def test_the_order_of_the_exceptions(self):
        book = read_catalog("b 0..5; d 10..15; rest r")
        for change, error, told in [
            (("split", "x", 99, "b", "d"), "UnknownPart", "x"),
            (("join", "x", "y", "b"), "UnknownPart", "x"),
            (("join", "b", "y", "d"), "UnknownPart", "y"),
            (("join", "b", "r", "d"), "UnknownPart", "r"),
            (("hang", "b", (0, 99)), "NameTaken", "b"),
            (("hang", "r", (0, 99)), "NameTaken", "r"),
            (("split", "b", 99, "d", "r"), "NameTaken", "d"),
            (("split", "b", 99, "r", "d"), "NameTaken", "r"),
            (("split", "b", 99, "c", "d"), "NameTaken", "d"),
            (("join", "b", "d", "r"), "NameTaken", "r"),
            (("hang", "a", (0, 99)), "Overlap", "b"),
            (("hang", "z", (12, 99)), "Overlap", "d"),
        ]:
            self.assert_error(error, told, changed, book, change)

    def test_overlaps_are_told_in_the_order_of_the_names(self):
        book = Catalog({"c": (0, 5), "b": (10, 15), "d": (-5, 0)}, rest="a")
        self.assert_error("Overlap", "b", changed, book, ("hang", "z", (None, None)))
        self.assert_error("Overlap", "c", changed, book, ("hang", "z", (-1, 5)))

    def test_eight_parts_and_the_ninth(self):
        split, hang = ("split", "a", -5, "x", "y"), ("hang", "x", (20, 30))
        seven = {**SEVEN, "a": (None, 1)}
        for full in (Catalog({**seven, "h": (7, 8)}), Catalog(seven, rest="h")):
            for change in (split, hang):
                self.assert_error("TooMany", 8, changed, full, change)
                self.assert_error("TooMany", 8, reverse, full, change)
                self.assertIs(fits(full, change), False)
            self.assertEqual(len(changed(full, ("join", "b", "c", "x"))), 7)
            self.assertEqual(len(changed(full, ("take", "b"))), 7)
        for change in (split, hang):
            self.assertEqual(len(changed(Catalog(seven), change)), 8)

    def test_too_many_comes_last(self):
        full = Catalog(EIGHT)
        self.assert_error("Overlap", "a", changed, full, ("hang", "x", (0, 30)))
        self.assert_error("NotInside", 5, changed, full, ("split", "a", 5, "x", "y"))
        self.assert_error("NameTaken", "b", changed, full, ("hang", "b", (20, 30)))
        self.assert_error("UnknownPart", "z", changed, full, ("split", "z", 5, "x", "y"))

    def test_reverse(self):
        book = read_catalog("a 0..5; b 5..; rest r")
        self.assertEqual(reverse(book, ("hang", "c", (None, 0))), ("take", "c"))
        self.assertEqual(reverse(book, ("take", "b")), ("hang", "b", (5, None)))
        self.assertEqual(reverse(book, ("split", "b", 9, "d", "c")), ("join", "d", "c", "b"))
        self.assertEqual(reverse(book, ("join", "a", "b", "c")), ("split", "c", 5, "a", "b"))


class TestMoved(Case):

    def test_pairs_of_small_catalogs(self):
        books = [Catalog(spans, rest=rest) for spans, rest in small_books()[::11]]
        for one, other in itertools.product(books, repeat=2):
            self.check_moved(one, other)

    def check_moved(self, one, other):
        """The stretches are in order and as long as possible, and have just the keys that are given to other parts."""
        stretches = moved(one, other)
        for low, high, here, there in stretches:
            self.assertNotEqual(here, there)
        for before, behind in zip(stretches, stretches[1:]):
            self.assertIsNotNone(before[1])
            self.assertTrue(before[1] <= behind[0])
            if before[1] == behind[0]:
                self.assertNotEqual(before[2:], behind[2:])
        for key in SMALL_KEYS:
            pair = (one.part_of(key), other.part_of(key))
            found = [stretch[2:] for stretch in stretches if keys_of(stretch[:2], [key])]
            self.assertEqual(found, [pair] if pair[0] != pair[1] else [])

    def test_equal_catalogs(self):
        for spans, rest in small_books()[::20]:
            self.assertEqual(moved(Catalog(spans, rest=rest), Catalog(spans, rest=rest)), [])

    def test_rest_parts_alone(self):
        self.assertEqual(moved(Catalog(rest="a"), Catalog(rest="b")), [(None, None, "a", "b")])
        self.assertEqual(moved(Catalog(rest="a"), Catalog()), [(None, None, "a", None)])
        self.assertEqual(moved(Catalog(rest="a"), Catalog({"a": (None, None)})), [])
        self.assertEqual(moved(Catalog(rest="a"), Catalog({"a": (0, 5)})), [(None, 0, "a", None), (5, None, "a", None)])

    def test_gaps_and_stretches_without_limits(self):
        one, other = read_catalog("a ..0; b 5..10; rest c"), read_catalog("a ..3; b 5..8; d 12..")
        expected = [
            (0, 3, "c", "a"), (3, 5, "c", None), (8, 10, "b", None), (10, 12, "c", None), (12, None, "c", "d"),
        ]
        self.assertEqual(moved(one, other), expected)
        self.assertEqual(moved(other, one), [(low, high, there, here) for low, high, here, there in expected])

    def test_a_part_that_is_taken_out_of_the_rest(self):
        self.assertEqual(moved(read_catalog("rest r"), read_catalog("a 0..5; rest r")), [(0, 5, "r", "a")])

    def test_the_first_argument_that_is_no_catalog(self):
        for value in every_value():
            if not isinstance(value, Catalog):
                self.assert_error("InvalidCatalog", value, moved, value, Catalog())
                self.assert_error("InvalidCatalog", value, moved, Catalog(), value)
                self.assert_error("InvalidCatalog", value, moved, value, [])
                self.assert_error("InvalidCatalog", value, way_between, value, Catalog())
                self.assert_error("InvalidCatalog", value, way_between, Catalog(), value)
                self.assert_error("InvalidCatalog", value, way_between, value, [])


class TestWays(Case):

    def test_no_change_and_several(self):
        book = read_catalog("a 0..10; rest r")
        self.assertEqual(carry(book, []), book)
        way = [("split", "a", 5, "b", "c"), ("take", "b"), ("hang", "a", (None, 5)), ("join", "a", "c", "d")]
        texts = [str(carry(book, way[:many])) for many in range(5)]
        self.assertEqual(texts, [
            "a 0..10; rest r", "b 0..5; c 5..10; rest r", "c 5..10; rest r", "a ..5; c 5..10; rest r", "d ..10; rest r",
        ])
        self.assertEqual(str(book), "a 0..10; rest r")
        self.assertEqual(len(way), 4)

    def test_a_bad_change_in_the_middle(self):
        book = read_catalog("a 0..10; rest r")
        way = [("take", "a"), ("take", "a"), ("take", "b"), ("hang", "r", (0, 1))]
        self.assert_error("UnknownPart", "a", carry, book, way)
        bad = ("split", "b", 5, "c", "c")
        self.assert_error("InvalidChange", bad, carry, book, [("take", "a"), bad, ("take", "a")])
        self.assert_error("UnknownPart", "z", carry, book, [("take", "z"), bad])
        self.assert_error("NotInside", 10, carry, book, [("split", "a", 10, "c", "d"), bad])

    def test_what_is_no_list(self):
        for value in every_value():
            if not isinstance(value, list):
                self.assert_error("InvalidChange", value, carry, Catalog(), value)
        way = (("hang", "a", (0, 1)),)
        self.assert_error("InvalidChange", way, carry, Catalog(), way)

    def test_what_is_no_catalog(self):
        for value in every_value():
            if not isinstance(value, Catalog):
                self.assert_error("InvalidCatalog", value, carry, value, [])
                self.assert_error("InvalidCatalog", value, carry, value, None)

    def test_ways_between_small_catalogs(self):
        books = [Catalog(spans, rest=rest) for spans, rest in small_books()[::11]]
        for one, other in itertools.product(books, repeat=2):
            way = way_between(one, other)
            if one.rest != other.rest:
                self.assertIsNone(way)
            else:
                self.assertIs(type(way), list)
                self.assertEqual(carry(one, way), other)
                self.assertEqual(way_between(one, other), way)

    def test_there_and_back(self):
        one, other = read_catalog("a ..5; b 5..; rest r"), read_catalog("a ..3; b 5..; c 3..5; rest r")
        self.assertEqual(carry(one, way_between(one, other)), other)
        self.assertEqual(carry(other, way_between(other, one)), one)
        self.assertEqual(way_between(one, one), [])

    def test_rest_parts(self):
        for one, other in [(None, "a"), ("a", None), ("a", "b")]:
            self.assertIsNone(way_between(Catalog(rest=one), Catalog(rest=other)))
            self.assertIsNone(way_between(Catalog({"c": (0, 1)}, rest=one), Catalog({"c": (0, 1)}, rest=other)))
        self.assertIsNone(way_between(Catalog(rest="a"), Catalog({"a": (None, None)})))
        self.assertEqual(way_between(Catalog(rest="a"), Catalog(rest="a")), [])

    def test_full_catalogs(self):
        shifted = {name: (at + 1, at + 2) for at, name in enumerate("abcdefgh")}
        renamed = {name: (at, at + 1) for at, name in enumerate("stuvwxyz")}
        backwards = {name: (-at, 1 - at) for at, name in enumerate("hgfedcba")}
        for one, other in itertools.permutations([EIGHT, shifted, renamed, backwards], 2):
            self.assertEqual(carry(Catalog(one), way_between(Catalog(one), Catalog(other))), Catalog(other))
        seven = {name: shifted[name] for name in "abcdefg"}
        one, other = Catalog(SEVEN, rest="r"), Catalog(seven, rest="r")
        self.assertEqual(carry(one, way_between(one, other)), other)

    def test_lists_that_were_returned_may_be_changed(self):
        one, other = Catalog(), Catalog({"a": (0, 1)})
        way_between(one, other).clear()
        moved(one, other).clear()
        self.assertEqual(way_between(one, other), [("hang", "a", (0, 1))])
        self.assertEqual(moved(one, other), [(0, 1, None, "a")])


if __name__ == "__main__":
    unittest.main()
