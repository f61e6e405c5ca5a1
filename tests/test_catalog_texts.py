"""Tests of [25]: the texts of catalogs."""

import itertools
import unittest

from hungparts.catalogs import Catalog, read_catalog
from tests.helper import BIG, Case, every_value, small_books

TEXTS = {
    "empty": Catalog(),
    "rest a": Catalog(rest="a"),
    "rest rest": Catalog(rest="rest"),
    "rest empty": Catalog(rest="empty"),
    "rest ..": Catalog({"rest": (None, None)}),
    "empty ..": Catalog({"empty": (None, None)}),
    "empty 0..1; rest ..0": Catalog({"rest": (None, 0), "empty": (0, 1)}),
    "rest ..10; rest c": Catalog({"rest": (None, 10)}, rest="c"),
    "rest -3..-2; zz 5..; rest empty": Catalog({"rest": (-3, -2), "zz": (5, None)}, rest="empty"),
    "a ..10; b 10..20; rest c": Catalog({"a": (None, 10), "b": (10, 20)}, rest="c"),
    "a 10..20; b ..10": Catalog({"b": (None, 10), "a": (10, 20)}),
    "b ..; rest a": Catalog({"b": (None, None)}, rest="a"),
    "abcdefgh -" + "9" * 30 + ".." + "9" * 30: Catalog({"abcdefgh": (-BIG, BIG)}),
    "a 0..1; b 1..2; c 2..3; d 3..4; e 4..5; f 5..6; g 6..7; h 7..8": Catalog(
        {name: (at, at + 1) for at, name in enumerate("abcdefgh")}),
    "a 0..1; b 1..2; c 2..3; d 3..4; e 4..5; f 5..6; g 6..7; rest h": Catalog(
        {name: (at, at + 1) for at, name in enumerate("abcdefg")}, rest="h"),
}

NO_TEXTS = [
    # Nothing, or no items.
    "", " ", ";", "; ", "\n", "none", "Empty", " empty", "empty ", "empty\n", "empty;", "empty; ", "empty; rest a",
    "empty; a ..", "a ..; empty", "empty; empty", "rest", "rest ", "a", "a ", "table", "rest a; empty",
    # Parts in another order, or twice.
    "b ..0; a 0..", "rest c; a ..10", "a ..10; rest c; b 10..20", "b 10..20; a ..10; rest c", "rest c; rest ..",
    "a ..0; a ..0", "a ..0; a 0..", "rest a; rest a", "rest a; rest b", "a ..0; rest a", "rest ..; rest rest",
    # Spans that meet, or are none.
    "a ..10; b 9..20", "a ..; b ..", "a 0..1; b 0..1", "a 1..1", "a 2..1", "a 00..1", "a -0..1", "a +1..2", "a 1",
    "a None..1", "a 1...2", "a 0..1..2", "a 1_0..11", "a ..\n", "a b", "a .. b", "a ..; b c",
    "a " + "1" * 31 + "..", "a .." + "1" * 31,
    # A space or a semicolon too many or too few.
    "a  ..10", " a ..10", "a ..10 ", "a ..10;", "a ..10; ", ";a ..10", "; a ..10", "a ..10;b 10..20", "a ..10 b 10..20",
    "a ..10;  b 10..20", "a ..10 ; b 10..20", "a ..10;; b 10..20", "a ..10; ; b 10..20", "a..10", "a ..10, b 10..20",
    "a ..10;rest c", "a ..10;  rest c", "a ..10; rest  c", "a ..10; rest c;", "a ..10; rest c; ", "a ..10; rest c ",
    "rest  a", " rest a", "rest a ", "resta", "a ..10; restc", "a .. 10", "a 1 ..10", "a ..10\n; b 10..20",
    "a ..10;\nb 10..20", "a\n..10", "a ..10; rest c\n", "\na ..10", "a: ..10", "a ..10|b 10..20",
    # Names that are none.
    "table ..", "rest table", "a ..; rest table", "A ..", "rest A", "abcdefghi ..", "rest abcdefghi", " ..", "..",
    "a1 ..", "rest a1", "rest a b", "1 ..", "table 0..1; rest a", "a\n ..", "rest a\n",
    # More than eight parts.
    "a 0..1; b 1..2; c 2..3; d 3..4; e 4..5; f 5..6; g 6..7; h 7..8; i 8..9",
    "a 0..1; b 1..2; c 2..3; d 3..4; e 4..5; f 5..6; g 6..7; h 7..8; rest i",
]


class TestTexts(Case):

    def test_texts_and_back(self):
        for text, catalog in TEXTS.items():
            self.assertEqual(str(catalog), text)
            self.assertEqual(read_catalog(text), catalog)
            self.assertIs(type(read_catalog(text)), Catalog)

    def test_all_small_catalogs(self):
        for spans, rest in small_books():
            catalog = Catalog(spans, rest=rest)
            self.assertEqual(read_catalog(str(catalog)), catalog)

    def test_different_catalogs_have_different_texts(self):
        books = small_books()
        self.assertEqual(len({str(Catalog(spans, rest=rest)) for spans, rest in books}), len(books))

    def test_what_was_read_tells_its_parts(self):
        catalog = read_catalog("rest ..10; rest c")
        self.assertEqual([catalog.names(), catalog.rest, catalog.span("rest")], [["c", "rest"], "c", (None, 10)])
        catalog = read_catalog("rest rest")
        self.assertEqual([catalog.names(), catalog.rest, catalog.span("rest")], [["rest"], "rest", None])
        self.assertEqual(read_catalog("empty").names(), [])
        self.assertEqual(read_catalog("empty ..").names(), ["empty"])

    def test_strings_that_are_no_texts(self):
        for text in NO_TEXTS:
            self.assert_error("InvalidText", text, read_catalog, text)

    def test_values_that_are_no_strings(self):
        for value in every_value():
            if not isinstance(value, str):
                self.assert_error("InvalidText", value, read_catalog, value)

    def test_strings_of_every_kind(self):
        for value in every_value():
            if isinstance(value, str) and value != "empty":
                self.assert_error("InvalidText", value, read_catalog, value)

    def test_items_in_every_order(self):
        items = ["a ..0", "b 0..5", "rest 7..", "rest z"]
        for many in range(1, 5):
            for chosen in itertools.product(items, repeat=many):
                self.check_items(items, list(chosen))

    def check_items(self, items, chosen):
        """Some of the items make a text exactly if each comes once and they are in order."""
        text = "; ".join(chosen)
        if chosen == [item for item in items if item in chosen]:
            self.assertEqual(str(read_catalog(text)), text)
        else:
            self.assert_error("InvalidText", text, read_catalog, text)

    def test_a_character_too_many_or_too_few(self):
        self.assert_exact(read_catalog, str, TEXTS, " ;.-0az\n")


if __name__ == "__main__":
    unittest.main()
