"""Tests of [21] to [24]: how catalogs are made, what they tell, and the catalogs that differ by a part."""

import copy
import itertools
import unittest

from hungparts import catalogs
from hungparts.catalogs import Catalog
from hungparts.words import is_span
from tests.helper import (
    BIG, INTEGERS, NAMES, NO_NAMES, SMALL_KEYS, SPANS, Case, every_value, keys_of, others, small_books, small_spans,
)

EIGHT = {name: (at, at + 1) for at, name in enumerate("abcdefgh")}
SEVEN = {name: (at, at + 1) for at, name in enumerate("abcdefg")}
METHODS = [
    "__init__", "rest", "names", "span", "part_of", "__len__", "__contains__", "__eq__", "stretches", "with_part",
    "without_part", "with_rest", "__str__",
]


def told(catalog):
    """All that a catalog tells of itself."""
    spans = {name: catalog.span(name) for name in catalog.names()}
    return catalog.rest, catalog.names(), spans, len(catalog), catalog.stretches(), str(catalog)


def part_by_definition(spans, rest, key):
    """The part that gets a key by [2]."""
    found = [name for name in spans if keys_of(spans[name], [key])]
    return found[0] if found else rest


class TestInterface(Case):

    def test_methods_stand_in_the_class_and_functions_in_the_file(self):
        for name in METHODS:
            self.assertIn(name, vars(Catalog))
        self.assertIsInstance(vars(Catalog)["rest"], property)
        self.assertEqual(Catalog.__module__, "hungparts.catalogs")
        self.assertEqual(catalogs.read_catalog.__module__, "hungparts.catalogs")

    def test_arguments_may_be_passed_by_name(self):
        catalog = Catalog(rest="c", spans={"a": (0, 5)})
        self.assertEqual(catalog.span(name="a"), (0, 5))
        self.assertEqual(catalog.part_of(key=4), "a")
        self.assertEqual(str(catalog.with_part(span=(5, 6), name="b")), "a 0..5; b 5..6; rest c")
        self.assertEqual(str(catalog.without_part(name="a")), "rest c")
        self.assertEqual(str(catalog.with_rest(name=None)), "a 0..5")
        self.assertEqual(catalogs.read_catalog(text="a 0..5; rest c"), catalog)

    def test_the_rest_part_is_passed_by_name_only(self):
        self.assertRaises(TypeError, Catalog, {}, "a")

    def test_the_example_of_the_document(self):
        catalog = Catalog({"a": (None, 10), "b": (10, 20)}, rest="c")
        found = [str(catalog), catalog.part_of(10), catalog.part_of(25), catalog.stretches()]
        stretches = [(None, 10, "a"), (10, 20, "b"), (20, None, "c")]
        self.assertEqual(found, ["a ..10; b 10..20; rest c", "b", "c", stretches])


class TestConstructor(Case):

    def test_spans_that_are_no_dict(self):
        for value in every_value():
            if value is not None and not isinstance(value, dict):
                self.assert_error("InvalidSpans", value, Catalog, value)
                self.assert_error("InvalidSpans", value, Catalog, value, rest="A")

    def test_none_and_the_empty_dict_are_no_parts(self):
        self.assertEqual(told(Catalog()), told(Catalog({})))
        self.assertEqual(told(Catalog(None)), told(Catalog({}, rest=None)))
        self.assertEqual(Catalog().names(), [])

    def test_keys_that_are_no_names(self):
        for value in [*INTEGERS, *[name for name in NO_NAMES if isinstance(name, str)]]:
            self.assert_error("InvalidName", value, Catalog, {value: (0, 1)})
            self.assert_error("InvalidName", value, Catalog, {"a": (0, 1), value: (1, 2), "b": (2, 3)})

    def test_the_first_wrong_key_in_the_order_of_the_dict_counts(self):
        self.assert_error("InvalidName", "Z", Catalog, {"b": (0, 1), "Z": (1, 2), "A": (2, 3), 5: (3, 4)})
        self.assert_error("InvalidName", 5, Catalog, {5: (0, 1), "Z": (1, 2), "A": (2, 3)})
        self.assert_error("InvalidName", "table", Catalog, {"a": (0, 1), "table": (1, 2), "": (2, 3)})
        self.assert_error("InvalidName", "", Catalog, {"a": (0, 1), "": (1, 2), "table": (2, 3)})

    def test_values_that_are_no_spans(self):
        for value in [*INTEGERS, *NAMES, *others()]:
            self.assert_error("InvalidSpan", value, Catalog, {"a": value})
            self.assert_error("InvalidSpan", value, Catalog, {"c": (0, 1), "b": value, "a": (1, 2)})

    def test_the_first_wrong_span_in_the_order_of_the_names_counts(self):
        first, second = [0, 1], (1, 1)
        self.assert_error("InvalidSpan", first, Catalog, {"z": second, "b": first, "a": (5, 6)})
        self.assert_error("InvalidSpan", second, Catalog, {"b": first, "a": second})
        self.assert_error("InvalidSpan", second, Catalog, {"ab": second, "b": first, "aa": (5, 6)})

    def test_spans_that_meet(self):
        for one, other in itertools.product(small_spans(), repeat=2):
            shared = [key for key in keys_of(one, SMALL_KEYS) if key in keys_of(other, SMALL_KEYS)]
            for spans in ({"a": one, "b": other}, {"b": one, "a": other}):
                if shared:
                    self.assert_error("Overlap", "b", Catalog, spans)
                else:
                    self.assertEqual(Catalog(spans).names(), ["a", "b"])

    def test_the_first_overlap_in_the_order_of_the_names_counts(self):
        spans = {"d": (0, 9), "c": (4, 6), "b": (20, 30), "a": (5, 7)}
        self.assert_error("Overlap", "c", Catalog, spans)
        self.assert_error("Overlap", "d", Catalog, {"d": (0, 9), "c": (14, 16), "b": (20, 30), "a": (5, 7)})
        self.assert_error("Overlap", "b", Catalog, {"a": (0, 9), "c": (0, 9), "b": (0, 9)})
        self.assert_error("Overlap", "z", Catalog, {"z": (None, None), "b": (3, 4)})

    def test_rest_parts_that_are_no_names(self):
        for value in [*INTEGERS, *SPANS, *others()]:
            if value is not None:
                self.assert_error("InvalidName", value, Catalog, {"a": (0, 1)}, rest=value)
                self.assert_error("InvalidName", value, Catalog, rest=value)

    def test_a_rest_part_whose_name_is_taken(self):
        self.assert_error("NameTaken", "a", Catalog, {"a": (0, 1)}, rest="a")
        self.assert_error("NameTaken", "c", Catalog, {"a": (0, 1), "c": (1, None)}, rest="c")

    def test_eight_parts_and_nine(self):
        self.assertEqual(Catalog(EIGHT).names(), list("abcdefgh"))
        self.assertEqual(Catalog(SEVEN, rest="z").names(), list("abcdefgz"))
        self.assert_error("TooMany", 8, Catalog, {**EIGHT, "i": (8, 9)})
        self.assert_error("TooMany", 8, Catalog, EIGHT, rest="i")
        self.assert_error("TooMany", 8, Catalog, {**EIGHT, "i": (8, 9)}, rest="j")

    def test_the_order_of_the_exceptions(self):
        bad_span = (1, 0)
        many = {**EIGHT, "i": (8, 9)}
        self.assert_error("InvalidName", "A", Catalog, {"a": bad_span, "A": (0, 1)})
        self.assert_error("InvalidName", "A", Catalog, {"a": (0, 1), "b": (0, 1), "A": (0, 1)}, rest="B")
        self.assert_error("InvalidSpan", bad_span, Catalog, {"a": (0, 1), "b": (0, 1), "c": bad_span}, rest="B")
        self.assert_error("Overlap", "b", Catalog, {"a": (0, 1), "b": (0, 1)}, rest="B")
        self.assert_error("Overlap", "b", Catalog, {"a": (0, 1), "b": (0, 1)}, rest="a")
        self.assert_error("Overlap", "i", Catalog, {**many, "i": (7, 9)}, rest="a")
        self.assert_error("InvalidName", "B", Catalog, many, rest="B")
        self.assert_error("NameTaken", "a", Catalog, many, rest="a")
        self.assert_error("NameTaken", "a", Catalog, EIGHT, rest="a")

    def test_later_changes_of_the_dict_have_no_effect(self):
        spans = {"b": (0, 5), "a": (5, None)}
        catalog = Catalog(spans, rest="c")
        before = told(catalog)
        spans["d"] = (-9, -8)
        spans["a"] = (5, 6)
        del spans["b"]
        self.assertEqual(told(catalog), before)
        spans.clear()
        self.assertEqual(told(catalog), before)

    def test_the_dict_is_not_modified(self):
        for spans, rest in small_books():
            items = list(spans.items())
            Catalog(spans, rest=rest)
            self.assertEqual(list(spans.items()), items)


class TestWhatItTells(Case):

    def test_parts_of_keys_about_all_limits(self):
        for spans, rest in small_books():
            catalog = Catalog(spans, rest=rest)
            for key in SMALL_KEYS:
                self.assertEqual(catalog.part_of(key), part_by_definition(spans, rest, key))

    def test_parts_of_keys_in_gaps_and_beyond(self):
        catalog = Catalog({"c": (-5, 0), "a": (10, 20), "b": (30, None)})
        found = [catalog.part_of(key) for key in (-BIG, -6, -5, -1, 0, 9, 10, 19, 20, 29, 30, BIG)]
        self.assertEqual(found, [None, None, "c", "c", None, None, "a", "a", None, None, "b", "b"])
        found = [catalog.with_rest("z").part_of(key) for key in (-BIG, -6, -5, 0, 9, 10, 20, 30)]
        self.assertEqual(found, ["z", "z", "c", "z", "z", "a", "z", "b"])

    def test_parts_of_values_that_are_no_keys(self):
        for catalog in (Catalog(), Catalog(rest="a"), Catalog({"a": (None, None)}), Catalog({"a": (0, 1)}, rest="b")):
            for value in [*NAMES, *SPANS, *others()]:
                self.assert_error("InvalidKey", value, catalog.part_of, value)

    def test_names_rest_and_number(self):
        for spans, rest in small_books():
            catalog = Catalog(spans, rest=rest)
            names = sorted([*spans, *([] if rest is None else [rest])])
            self.assertEqual(catalog.names(), names)
            self.assertIs(type(catalog.names()), list)
            self.assertEqual(len(catalog), len(names))
            self.assertEqual(catalog.rest, rest)

    def test_the_rest_part_cannot_be_set(self):
        with self.assertRaises(AttributeError):
            Catalog().rest = "a"

    def test_spans_of_parts(self):
        for spans, rest in small_books():
            catalog = Catalog(spans, rest=rest)
            for name in catalog.names():
                self.assertEqual(catalog.span(name), spans.get(name))

    def test_any_value_may_be_in_or_not(self):
        catalog = Catalog({"a": (0, 1), "abcdefgh": (1, 2)}, rest="rest")
        for value in every_value():
            expected = isinstance(value, str) and value in ("a", "abcdefgh", "rest")
            self.assertIs(value in catalog, expected)
            self.assertIs(value not in catalog, not expected)
            self.assertIs(value in Catalog(), False)
            self.assertIs(value in Catalog(rest="b"), False)

    def test_spans_of_values_that_are_no_parts(self):
        for catalog in (Catalog(), Catalog(rest="b"), Catalog({"b": (0, 1)}), Catalog({"b": (0, 1)}, rest="c")):
            for value in every_value():
                self.assert_error("UnknownPart", value, catalog.span, value)

    def test_equal_catalogs(self):
        books = small_books()[::7]
        for (spans, rest), (others_spans, others_rest) in itertools.product(books, repeat=2):
            one, other = Catalog(spans, rest=rest), Catalog(others_spans, rest=others_rest)
            expected = spans == others_spans and rest == others_rest
            self.assertIs(one == other, expected)
            self.assertIs(one != other, not expected)

    def test_the_order_of_the_dict_has_no_meaning(self):
        spans = {"b": (0, 5), "a": (5, None), "c": (None, 0)}
        for names in itertools.permutations(spans):
            catalog = Catalog({name: spans[name] for name in names}, rest="d")
            self.assertEqual(told(catalog), told(Catalog(spans, rest="d")))
            self.assertTrue(catalog == Catalog(spans, rest="d"))

    def test_a_difference_in_one_place(self):
        catalog = Catalog({"a": (0, 5)}, rest="b")
        for other in (
            Catalog({"a": (0, 5)}), Catalog({"a": (0, 5)}, rest="c"), Catalog({"a": (0, 6)}, rest="b"),
            Catalog({"a": (None, 5)}, rest="b"), Catalog({"c": (0, 5)}, rest="b"), Catalog(rest="b"), Catalog(),
            Catalog({"a": (0, 5), "b": (5, None)}), Catalog({"b": (0, 5)}, rest="a"),
        ):
            self.assertFalse(catalog == other)
            self.assertTrue(catalog != other)
        self.assertTrue(catalog == Catalog({"a": (0, 5)}, rest="b"))

    def test_no_catalog_equals_a_value_of_another_kind(self):
        for catalog in (Catalog({"z": (0, 5)}, rest="y"), Catalog({"a": (0, 5)}), Catalog(rest="q")):
            for value in [*every_value(), str(catalog), told(catalog), catalog.names(), {"a": (0, 5)}]:
                self.assertIs(catalog == value, False)
                self.assertIs(value == catalog, False)
                self.assertIs(catalog != value, True)

    def test_lists_that_were_returned_may_be_changed(self):
        catalog = Catalog({"a": (0, 5)}, rest="b")
        before = told(catalog)
        names, stretches = catalog.names(), catalog.stretches()
        names.append("c")
        names[0] = "x"
        stretches.clear()
        self.assertEqual(told(catalog), before)
        self.assertIs("c" in catalog, False)
        self.assertIs("a" in catalog, True)
        self.assertEqual(catalog.part_of(3), "a")
        self.assertIsNot(catalog.names(), catalog.names())
        self.assertIsNot(catalog.stretches(), catalog.stretches())


class TestStretches(Case):

    def test_all_small_catalogs(self):
        for spans, rest in small_books():
            self.check_stretches(Catalog(spans, rest=rest))

    def check_stretches(self, catalog):
        """The stretches cover all keys, each is as long as possible, and each key is in that of its part."""
        stretches = catalog.stretches()
        self.assertIs(type(stretches), list)
        self.assertIsNone(stretches[0][0])
        self.assertIsNone(stretches[-1][1])
        for before, behind in zip(stretches, stretches[1:]):
            self.assertIsNotNone(before[1])
            self.assertEqual(before[1], behind[0])
            self.assertNotEqual(before[2], behind[2])
        for stretch in stretches:
            self.assertIs(type(stretch), tuple)
            self.assertTrue(is_span(stretch[:2]))
        for key in SMALL_KEYS:
            found = [part for low, high, part in stretches if keys_of((low, high), [key])]
            self.assertEqual(found, [catalog.part_of(key)])

    def test_no_part_and_a_rest_part_alone(self):
        self.assertEqual(Catalog().stretches(), [(None, None, None)])
        self.assertEqual(Catalog(rest="a").stretches(), [(None, None, "a")])

    def test_a_span_without_limits(self):
        self.assertEqual(Catalog({"a": (None, None)}).stretches(), [(None, None, "a")])
        self.assertEqual(Catalog({"a": (None, None)}, rest="b").stretches(), [(None, None, "a")])

    def test_spans_without_a_limit_on_one_side(self):
        self.assertEqual(Catalog({"a": (None, 0)}).stretches(), [(None, 0, "a"), (0, None, None)])
        self.assertEqual(Catalog({"a": (0, None)}).stretches(), [(None, 0, None), (0, None, "a")])
        self.assertEqual(Catalog({"a": (0, None)}, rest="b").stretches(), [(None, 0, "b"), (0, None, "a")])

    def test_spans_that_touch_and_gaps(self):
        catalog = Catalog({"c": (-9, -3), "a": (-3, 0), "b": (7, 10)})
        expected = [(None, -9, None), (-9, -3, "c"), (-3, 0, "a"), (0, 7, None), (7, 10, "b"), (10, None, None)]
        self.assertEqual(catalog.stretches(), expected)
        expected = [(low, high, "z" if part is None else part) for low, high, part in expected]
        self.assertEqual(catalog.with_rest("z").stretches(), expected)

    def test_spans_that_touch_leave_no_gap(self):
        catalog = Catalog({"c": (None, 0), "a": (0, 1), "b": (1, None)}, rest="z")
        self.assertEqual(catalog.stretches(), [(None, 0, "c"), (0, 1, "a"), (1, None, "b")])

    def test_negative_limits_come_behind_none(self):
        catalog = Catalog({"a": (-5, 5), "b": (None, -5)})
        self.assertEqual(catalog.stretches(), [(None, -5, "b"), (-5, 5, "a"), (5, None, None)])


class TestOtherCatalogs(Case):

    def setUp(self):
        self.catalog = Catalog({"b": (0, 10), "d": (20, 30)}, rest="c")
        self.before = copy.deepcopy(told(self.catalog))

    def tearDown(self):
        self.assertEqual(told(self.catalog), self.before)

    def test_with_part(self):
        self.assertEqual(str(self.catalog.with_part("a", (10, 20))), "a 10..20; b 0..10; d 20..30; rest c")
        self.assertEqual(str(self.catalog.with_part("e", (30, None))), "b 0..10; d 20..30; e 30..; rest c")
        self.assertEqual(str(Catalog().with_part("a", (None, None))), "a ..")
        self.assertEqual(Catalog(rest="r").with_part("a", (1, 2)), Catalog({"a": (1, 2)}, rest="r"))

    def test_with_part_of_all_small_catalogs(self):
        for spans, rest in small_books():
            catalog = Catalog(spans, rest=rest)
            for span in ((None, 0), (1, 2), (3, None), (-1, 5)):
                meeting = [name for name in sorted(spans) if set(keys_of(spans[name], SMALL_KEYS)) & set(
                    keys_of(span, SMALL_KEYS))]
                if meeting:
                    self.assert_error("Overlap", meeting[0], catalog.with_part, "ab", span)
                else:
                    self.assertEqual(catalog.with_part("ab", span), Catalog({**spans, "ab": span}, rest=rest))

    def test_with_part_refuses_values_that_are_no_names(self):
        for value in [*INTEGERS, *SPANS, *others()]:
            self.assert_error("InvalidName", value, self.catalog.with_part, value, (10, 20))

    def test_with_part_refuses_values_that_are_no_spans(self):
        for value in [*INTEGERS, *NAMES, *others()]:
            self.assert_error("InvalidSpan", value, self.catalog.with_part, "a", value)

    def test_with_part_refuses_names_that_are_taken(self):
        for name in ("b", "c", "d"):
            self.assert_error("NameTaken", name, self.catalog.with_part, name, (10, 20))

    def test_with_part_tells_the_first_part_that_meets(self):
        self.assert_error("Overlap", "b", self.catalog.with_part, "a", (9, 21))
        self.assert_error("Overlap", "b", self.catalog.with_part, "z", (None, None))
        self.assert_error("Overlap", "d", self.catalog.with_part, "a", (10, 21))
        backwards = Catalog({"d": (0, 10), "b": (20, 30)})
        self.assert_error("Overlap", "b", backwards.with_part, "a", (None, None))
        self.assert_error("Overlap", "d", backwards.with_part, "c", (5, 6))

    def test_with_part_makes_eight_parts_but_not_nine(self):
        self.assertEqual(Catalog(SEVEN).with_part("h", (7, 8)), Catalog(EIGHT))
        self.assert_error("TooMany", 8, Catalog(EIGHT).with_part, "i", (8, 9))
        self.assert_error("TooMany", 8, Catalog(SEVEN, rest="h").with_part, "i", (8, 9))

    def test_the_order_of_the_exceptions_of_with_part(self):
        full = Catalog(SEVEN, rest="z")
        bad_span = (3, 3)
        self.assert_error("InvalidName", "A", full.with_part, "A", bad_span)
        self.assert_error("InvalidName", "table", full.with_part, "table", (0, 1))
        self.assert_error("InvalidSpan", bad_span, full.with_part, "a", bad_span)
        self.assert_error("InvalidSpan", bad_span, full.with_part, "z", bad_span)
        self.assert_error("NameTaken", "b", full.with_part, "b", (0, 1))
        self.assert_error("NameTaken", "z", full.with_part, "z", (0, 1))
        self.assert_error("NameTaken", "z", full.with_part, "z", (100, 101))
        self.assert_error("Overlap", "a", full.with_part, "i", (0, 1))

    def test_without_part(self):
        self.assertEqual(str(self.catalog.without_part("b")), "d 20..30; rest c")
        self.assertEqual(str(self.catalog.without_part("c")), "b 0..10; d 20..30")
        self.assertEqual(Catalog(rest="a").without_part("a"), Catalog())
        self.assertEqual(Catalog({"a": (0, 1)}).without_part("a"), Catalog())

    def test_without_part_undoes_with_part(self):
        for spans, rest in small_books():
            catalog = Catalog(spans, rest=rest)
            for name in catalog.names():
                less = catalog.without_part(name)
                self.assertIs(name in less, False)
                self.assertEqual(len(less), len(catalog) - 1)
                more = less.with_rest(name) if name == rest else less.with_part(name, spans[name])
                self.assertEqual(more, catalog)

    def test_without_part_refuses_values_that_are_no_parts(self):
        for value in every_value():
            self.assert_error("UnknownPart", value, Catalog({"b": (0, 1)}, rest="c").without_part, value)
            self.assert_error("UnknownPart", value, Catalog().without_part, value)

    def test_with_rest(self):
        self.assertEqual(str(self.catalog.with_rest("a")), "b 0..10; d 20..30; rest a")
        self.assertEqual(self.catalog.with_rest("c"), self.catalog)
        self.assertEqual(str(self.catalog.with_rest(None)), "b 0..10; d 20..30")
        self.assertEqual(Catalog().with_rest("a"), Catalog(rest="a"))
        self.assertEqual(Catalog().with_rest(None), Catalog())

    def test_with_rest_refuses_values_that_are_no_names(self):
        for value in [*INTEGERS, *SPANS, *others()]:
            if value is not None:
                self.assert_error("InvalidName", value, self.catalog.with_rest, value)
                self.assert_error("InvalidName", value, Catalog(EIGHT).with_rest, value)

    def test_with_rest_refuses_names_of_parts_with_spans(self):
        for name in ("b", "d"):
            self.assert_error("NameTaken", name, self.catalog.with_rest, name)
        self.assert_error("NameTaken", "a", Catalog(EIGHT).with_rest, "a")

    def test_with_rest_where_there_are_eight_parts(self):
        full = Catalog(SEVEN, rest="h")
        self.assertEqual(full.with_rest("i"), Catalog(SEVEN, rest="i"))
        self.assertEqual(full.with_rest("h"), full)
        self.assertEqual(full.with_rest(None), Catalog(SEVEN))
        self.assertEqual(Catalog(SEVEN).with_rest("i"), Catalog(SEVEN, rest="i"))
        self.assertEqual(Catalog(EIGHT).with_rest(None), Catalog(EIGHT))
        self.assert_error("TooMany", 8, Catalog(EIGHT).with_rest, "i")
        self.assertEqual(Catalog(EIGHT).without_part("a").with_rest("a").names(), list("abcdefgh"))


if __name__ == "__main__":
    unittest.main()
