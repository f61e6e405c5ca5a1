"""Tests of [85]: the texts of weavings."""

import itertools
import unittest

from hungparts.weavings import read_weaving, weaving_text
from tests.helper import BIG, INTEGERS, NAMES, SPANS, Case, every_value, others

LINES = {
    "begin put 3": ("put", 3),
    "begin put -30": ("put", -30),
    "begin strike 0": ("strike", 0),
    "begin read 10": ("read", 10),
    "begin read -" + "9" * 30: ("read", -BIG),
    "begin direct a 3": ("direct", "a", 3),
    "begin direct direct -3": ("direct", "direct", -3),
    "begin hang a ..10": ("hang", "a", (None, 10)),
    "begin hang abcdefgh ..": ("hang", "abcdefgh", (None, None)),
    "begin hang a -5..": ("hang", "a", (-5, None)),
    "begin hang begin -" + "9" * 30 + ".." + "9" * 30: ("hang", "begin", (-BIG, BIG)),
    "begin take a": ("take", "a"),
    "begin take take": ("take", "take"),
    "begin split a 5 b c": ("split", "a", 5, "b", "c"),
    "begin split c -5 b a": ("split", "c", -5, "b", "a"),
    "begin join a b c": ("join", "a", "b", "c"),
    "begin join c step a": ("join", "c", "step", "a"),
    "step 0": 0,
    "step 10": 10,
    "step " + "9" * 30: BIG,
}

NO_LINES = [
    # No turns.
    " ", "begin", "begin ", "step", "step ", "put 3", "0", "begin 0", "step put 3", "Begin put 3", "Step 0",
    "begin begin put 3",
    "begin end", "begin look", "begin table 3", "begin Put 3", "begin put", "begin take", "begin hang a",
    "begin direct a",
    "begin direct 3", "begin split a 5 b", "begin join a b", "begin direct", "begin claim 3", "begin step 0",
    "step step 0",
    # A word or a space too many.
    " begin put 3", "begin  put 3", "begin put  3", "begin put 3 ", "begin put 3 4", "begin take a b", "begin put a 3",
    "begin hang a 0..5 b", "begin hang a 0 5", "begin hang a 0.. 5", "begin split a 5 b c d", "begin join a b c d",
    "begin direct a 3 4", " step 0", "step  0", "step 0 ", "step 0 1", "begin, put 3", "begin: put 3", "step 0,",
    "begin put 3;",
    "begin direct  a 3", "begin direct a  3", "begin take  a", "begin\nput 3", "begin put\n3", "step\n0", "beginput 3",
    "step0",
    # Numbers, spans and names that are none.
    "begin put 03", "begin put 00", "begin put -0", "begin put +3", "begin put 3.0", "begin put --3", "begin put - 3",
    "begin put a", "begin put None", "begin put True", "begin put 1_0", "begin put " + "1" * 31, "begin put -03",
    "begin direct A 3", "begin direct table 3", "begin direct 3 a", "begin direct abcdefghi 3", "begin take A",
    "begin take table", "begin take 3", "begin hang a 5", "begin hang a 5..5", "begin hang a 6..5",
    "begin hang a 05..6",
    "begin hang a -0..6", "begin hang a (0, 5)", "begin hang a 0...5", "begin hang a 0.5", "begin hang table 0..5",
    "begin hang 0..5 a", "begin split a b 5 c", "begin split a 5 b b", "begin split a 5 a b", "begin split a 05 b c",
    "begin split a ..5 b c", "begin join a b a", "begin join a a b", "begin join a b table", "begin join a b 3",
    "begin hang a " + "1" * 31 + "..", "step 00", "step 01", "step -0", "step -1", "step +1", "step a",
    "step " + "1" * 31,
    "step 1.0", "step ..", "step 0..1",
]


def no_weavings():
    """Values that are no lists of sessions and integers from 0 on."""
    found = [value for value in every_value() if value != [] and value != [0, 1] and value != [0, 1, 2]]
    bad_turns = [
        -1, -BIG, True, False, None, (), ("put",), ("put", "3"), ("put", True), ["put", 3], "put 3", ("take", "table"),
        ("split", "a", 5, "b", "b"), ("hang", "a", (5, 5)), ("direct", "a"), ("end",), ("put", 3, 4), "step 0", [0],
        ("join", "a", "b"), ("direct", 3, "a"), (0,),
    ]
    for turn in bad_turns:
        found.extend([[turn], [("put", 3), turn, 0], [0, turn]])
    return [*found, (0,), (("put", 3),), "step 0", "", {0: 1}]


class TestTexts(Case):

    def test_lines_and_back(self):
        for line, turn in LINES.items():
            self.assertEqual(weaving_text([turn]), line)
            self.assertEqual(read_weaving(line), [turn])
            self.assertIs(type(read_weaving(line)), list)
            self.assertIs(type(read_weaving(line)[0]), type(turn))

    def test_several_lines(self):
        for pair in itertools.product(LINES, repeat=2):
            turns = [LINES[line] for line in pair]
            self.assertEqual(weaving_text(turns), "\n".join(pair))
            self.assertEqual(read_weaving("\n".join(pair)), turns)
        self.assertEqual(read_weaving("\n".join(LINES)), list(LINES.values()))
        self.assertEqual(weaving_text(list(LINES.values())), "\n".join(LINES))

    def test_the_empty_weaving(self):
        self.assertEqual([weaving_text([]), read_weaving("")], ["", []])

    def test_sessions_of_all_keys_names_and_spans(self):
        turns = [number for number in INTEGERS if number >= 0]
        for key in INTEGERS:
            turns.extend([("put", key), ("strike", key), ("read", key), ("direct", "a", key), ("split", "x", key, "y",
                "w")])
        for name in NAMES:
            turns.extend([("direct", name, 3), ("take", name), ("split", name, 3, "y", "w"), ("join", "y", name, "w")])
        turns.extend([("hang", "x", span) for span in SPANS])
        self.assertEqual(read_weaving(weaving_text(turns)), turns)

    def test_weavings_need_not_run(self):
        self.assertEqual(weaving_text([7, ("take", "a"), ("take", "a")]), "step 7\nbegin take a\nbegin take a")
        self.assertEqual(read_weaving("step 7\nbegin take a"), [7, ("take", "a")])

    def test_arguments_may_be_passed_by_name(self):
        self.assertEqual(weaving_text(weaving=[0]), "step 0")
        self.assertEqual(read_weaving(text="step 0"), [0])

    def test_strings_that_are_no_texts(self):
        for line in NO_LINES:
            for text in (line, "step 0\n" + line, line + "\nbegin put 3", "begin put 3\n" + line + "\nstep 0"):
                self.assert_error("InvalidText", text, read_weaving, text)

    def test_line_feeds_too_many(self):
        for line in LINES:
            for text in (line + "\n", "\n" + line, line + "\n\n" + line, line + "\n\n", "\n", "\n\n",
                line + " \n" + line):
                self.assert_error("InvalidText", text, read_weaving, text)

    def test_values_of_every_kind_are_no_texts(self):
        for value in [*every_value(), *others(), [0], ["step 0"], ("step 0",)]:
            if value != "":
                self.assert_error("InvalidText", value, read_weaving, value)

    def test_values_that_are_no_weavings(self):
        for value in no_weavings():
            self.assert_error("InvalidWeaving", value, weaving_text, value)

    def test_a_character_too_many_or_too_few(self):
        text = "begin hang a -5..10\nstep 10\nbegin put -3"
        self.assert_exact(read_weaving, weaving_text, [text], " .-0a\n")


if __name__ == "__main__":
    unittest.main()
