"""Tests of [2] and [12] to [14]: integers, names, spans, and the texts of spans."""

import itertools
import re
import unittest

from hungparts import words
from hungparts.words import common, in_span, is_integer, is_name, is_span, meet, read_span, span_text
from tests.helper import BIG, INTEGERS, NAMES, SMALL_KEYS, SPANS, Case, every_value, keys_of, others, small_spans

NUMBER = "(0|-?[1-9][0-9]{0,29})?"
SPAN_TEXT = re.compile(NUMBER + r"\.\." + NUMBER)


class TestInterface(Case):

    def test_the_functions_are_defined_in_the_file(self):
        names = ["is_integer", "is_name", "is_span", "in_span", "meet", "common", "span_text", "read_span"]
        for name in names:
            self.assertEqual(getattr(words, name).__module__, "hungparts.words")

    def test_arguments_may_be_passed_by_name(self):
        self.assertIs(is_integer(value=1), True)
        self.assertIs(is_name(value="a"), True)
        self.assertIs(is_span(value=(1, 2)), True)
        self.assertIs(in_span(key=1, span=(1, 2)), True)
        self.assertIs(meet(other=(1, 2), one=(2, 3)), False)
        self.assertEqual(common(other=(1, None), one=(None, 3)), (1, 3))
        self.assertEqual(span_text(span=(1, 2)), "1..2")
        self.assertEqual(read_span(text="1..2"), (1, 2))

    def test_the_examples_of_the_document(self):
        found = [in_span((None, 5), 4), common((0, 9), (5, None)), span_text((None, 5)), read_span("3..")]
        self.assertEqual(found, [True, (5, 9), "..5", (3, None)])


class TestKindsOfValues(Case):

    def test_integers(self):
        for value in INTEGERS:
            self.assertIs(is_integer(value), True, value)
        for value in [*NAMES, *SPANS, *others()]:
            self.assertIs(is_integer(value), False, value)

    def test_true_and_false_are_no_integers(self):
        self.assertIs(is_integer(True), False)
        self.assertIs(is_integer(False), False)

    def test_names(self):
        for value in NAMES:
            self.assertIs(is_name(value), True, value)
        for value in [*INTEGERS, *SPANS, *others()]:
            self.assertIs(is_name(value), False, value)

    def test_names_have_one_to_eight_letters(self):
        for many in range(12):
            self.assertIs(is_name("m" * many), 1 <= many <= 8, many)

    def test_only_the_letters_from_a_to_z_are_in_names(self):
        letters = "abcdefghijklmnopqrstuvwxyz"
        for sign in [chr(code) for code in range(32, 127) if chr(code) != "%"] + ["\n"]:
            for text in (sign, "a" + sign, sign + "a", "a" + sign + "a"):
                self.assertIs(is_name(text), sign in letters, text)

    def test_table_is_no_name_but_its_likes_are(self):
        self.assertIs(is_name("table"), False)
        for text in ("tables", "tabl", "atable", "able", "elbat"):
            self.assertIs(is_name(text), True)

    def test_spans(self):
        for value in SPANS:
            self.assertIs(is_span(value), True, value)
        for value in [*INTEGERS, *NAMES, *others()]:
            self.assertIs(is_span(value), False, value)

    def test_spans_of_every_two_values(self):
        for low, high in itertools.product(every_value(), repeat=2):
            limits = all(value is None or type(value) is int for value in (low, high))
            expected = limits and (low is None or high is None or low < high)
            self.assertIs(is_span((low, high)), expected)
            self.assertIs(is_span([low, high]), False)
            self.assertIs(is_span((low, high, None)), False)


class TestKeysOfSpans(Case):

    def test_keys_about_each_limit(self):
        for limit in (0, 5, -5, BIG - 1, -BIG + 1):
            about = [limit - 1, limit, limit + 1]
            self.assertEqual([in_span((limit, None), key) for key in about], [False, True, True])
            self.assertEqual([in_span((None, limit), key) for key in about], [True, False, False])
            self.assertEqual([in_span((limit, limit + 1), key) for key in about], [False, True, False])
            self.assertEqual([in_span((None, None), key) for key in about], [True, True, True])

    def test_small_spans_have_their_keys(self):
        for span in small_spans():
            for key in SMALL_KEYS:
                self.assertIs(in_span(span, key), key in keys_of(span, SMALL_KEYS))

    def test_small_spans_meet_in_their_common_keys(self):
        for one, other in itertools.product(small_spans(), repeat=2):
            shared = [key for key in keys_of(one, SMALL_KEYS) if key in keys_of(other, SMALL_KEYS)]
            self.assertIs(meet(one, other), shared != [])
            both = common(one, other)
            if shared == []:
                self.assertIsNone(both)
            else:
                self.assertTrue(is_span(both))
                self.assertEqual(keys_of(both, SMALL_KEYS), shared)

    def test_spans_that_touch_do_not_meet(self):
        self.assertIs(meet((0, 5), (5, 9)), False)
        self.assertIs(meet((5, 9), (0, 5)), False)
        self.assertIs(meet((None, 5), (5, None)), False)
        self.assertIsNone(common((0, 5), (5, 9)))
        self.assertIsNone(common((5, None), (None, 5)))

    def test_common_spans(self):
        self.assertEqual(common((0, 6), (5, 9)), (5, 6))
        self.assertEqual(common((5, 9), (0, 6)), (5, 6))
        self.assertEqual(common((0, 9), (3, 4)), (3, 4))
        self.assertEqual(common((3, 4), (0, 9)), (3, 4))
        self.assertEqual(common((None, None), (None, None)), (None, None))
        self.assertEqual(common((None, None), (-3, 4)), (-3, 4))
        self.assertEqual(common((None, 0), (None, -3)), (None, -3))
        self.assertEqual(common((0, None), (-3, None)), (0, None))
        self.assertEqual(common((-BIG, BIG), (0, None)), (0, BIG))

    def test_a_value_that_is_no_span(self):
        for value in [*INTEGERS, *NAMES, *others()]:
            self.assert_error("InvalidSpan", value, in_span, value, 1)
            for call in (meet, common):
                self.assert_error("InvalidSpan", value, call, value, (1, 2))
                self.assert_error("InvalidSpan", value, call, (1, 2), value)

    def test_a_value_that_is_no_key(self):
        for value in [*NAMES, *SPANS, *others()]:
            for span in ((0, 2), (None, None)):
                self.assert_error("InvalidKey", value, in_span, span, value)

    def test_the_first_argument_that_is_wrong_counts(self):
        first, second = [0, 1], [2, 3]
        for call in (meet, common):
            self.assert_error("InvalidSpan", first, call, first, second)
            self.assert_error("InvalidSpan", second, call, second, first)

    def test_the_span_comes_before_the_key(self):
        wrong = (5, 5)
        self.assert_error("InvalidSpan", wrong, in_span, wrong, True)
        self.assert_error("InvalidSpan", None, in_span, None, None)


class TestTextsOfSpans(Case):

    def test_texts_and_back(self):
        told = {
            "..": (None, None), "..0": (None, 0), "0..": (0, None), "0..10": (0, 10), "-1..0": (-1, 0),
            "-10..-9": (-10, -9), "..-5": (None, -5), "-5..": (-5, None), "100..2000": (100, 2000),
            "-" + "9" * 30 + ".." + "9" * 30: (-BIG, BIG), "1" + "0" * 29 + "..": (10 ** 29, None),
        }
        for text, span in told.items():
            self.assertEqual(span_text(span), text)
            self.assertEqual(read_span(text), span)
            self.assertIs(type(read_span(text)), tuple)

    def test_all_spans_of_the_helper(self):
        for span in [*SPANS, *small_spans()]:
            self.assertEqual(read_span(span_text(span)), span)

    def test_values_that_have_no_text(self):
        for value in [*INTEGERS, *NAMES, *others()]:
            self.assert_error("InvalidSpan", value, span_text, value)

    def test_strings_that_are_no_texts(self):
        texts = [
            "", ".", "...", "....", "1", "1.2", "1...2", "1....2", "1..2..3", "..1..", "1..2.", ".1..2", "a..b",
            "00..1", "0..01", "007..8", "-01..0", "-0..1", "..-0", "-0..", "+1..2", "1..+2", "--1..2", "-..1", "1..-",
            "..-", "-..", " 1..2", "1 ..2", "1.. 2", "1..2 ", " ..", ".. ", "1..1_0", "1_0..", "_..1", "1..2\n",
            "\n1..2", "1\n..2", "..\n", "1..\n2", "2..1", "1..1", "0..0", "-5..-6", "10..9", "None..None", "None..1",
            "0x1..", "1e3..", "(1, 2)", "1,2", "1-..2", "9" * 31 + "..", ".." + "9" * 31, "-" + "9" * 31 + "..",
            "1.." + "1" * 31, "1" * 31 + "..", "0" * 31 + "..",
        ]
        for text in texts:
            self.assert_error("InvalidText", text, read_span, text)

    def test_thirty_digits_but_no_more(self):
        for sign in ("", "-"):
            self.assertEqual(read_span(sign + "1" * 30 + ".."), (int(sign + "1" * 30), None))
            self.assertEqual(read_span(".." + sign + "1" * 30), (None, int(sign + "1" * 30)))
            for text in (sign + "1" * 31 + "..", ".." + sign + "1" * 31):
                self.assert_error("InvalidText", text, read_span, text)

    def test_values_that_are_no_strings(self):
        for value in every_value():
            if value not in ("..", "0..1"):
                self.assert_error("InvalidText", value, read_span, value)

    def test_all_short_strings(self):
        for many in range(7):
            for signs in itertools.product(".-01", repeat=many):
                self.check_text("".join(signs))
        for many in range(5):
            for signs in itertools.product(".-+_ 012\n", repeat=many):
                self.check_text("".join(signs))

    def check_text(self, text):
        """A string is read exactly if it has the form of [14] and its limits are in order."""
        found = SPAN_TEXT.fullmatch(text)
        limits = None if found is None else tuple(int(limit) if limit else None for limit in found.groups())
        if limits is not None and (None in limits or limits[0] < limits[1]):
            self.assertEqual(read_span(text), limits)
        else:
            self.assert_error("InvalidText", text, read_span, text)


if __name__ == "__main__":
    unittest.main()
