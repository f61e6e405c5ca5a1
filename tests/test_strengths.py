"""Tests of [4] and [41] to [45]: modes of locks, and which of them clash and are weaker."""

import itertools
import unittest

from hungparts import strengths
from hungparts.strengths import Strengths, read_strengths, standard
from tests.helper import INTEGERS, NAMES, SPANS, Case, every_value, others

METHODS = [
    "__init__", "modes", "clashes", "clash", "weaker", "__len__", "__eq__", "weakest", "strongest", "steps_down",
    "__str__",
]
EIGHT = list("abcdefgh")
PAIRS = [("a", "a"), ("a", "b"), ("a", "c"), ("b", "b"), ("b", "c"), ("c", "c")]


def small_strengths():
    """All strengths with the modes a, b and c."""
    found = []
    for many in range(len(PAIRS) + 1):
        found.extend([Strengths(["a", "b", "c"], list(pairs)) for pairs in itertools.combinations(PAIRS, many)])
    return found


def told(known):
    """All that strengths tell of themselves."""
    modes = known.modes()
    pairs = list(itertools.product(modes, repeat=2))
    return [
        modes, len(known), known.clashes(), known.weakest(), known.strongest(), str(known),
        [known.clash(*pair) for pair in pairs], [known.weaker(*pair) for pair in pairs],
        [known.steps_down(mode) for mode in modes],
    ]


class TestInterface(Case):

    def test_methods_stand_in_the_class_and_functions_in_the_file(self):
        for name in METHODS:
            self.assertIn(name, vars(Strengths))
        for name in ("Strengths", "standard", "read_strengths"):
            self.assertEqual(getattr(strengths, name).__module__, "hungparts.strengths")

    def test_arguments_may_be_passed_by_name(self):
        known = Strengths(clashes=[("a", "b")], modes=["a", "b"])
        self.assertIs(known.clash(other="a", one="b"), True)
        self.assertIs(known.weaker(other="a", one="b"), False)
        self.assertEqual(known.steps_down(mode="a"), [])
        self.assertEqual(read_strengths(text="a b: a!b"), known)

    def test_the_examples_of_the_document(self):
        found = [standard().weaker("read", "write"), standard().weaker("share", "write"),
            standard().steps_down("alone")]
        self.assertEqual(found, [True, False, ["write", "share"]])
        known = Strengths(["read", "write"], [("read", "write"), ("write", "write")])
        self.assertEqual(str(known), "read write: read!write write!write")


class TestConstructor(Case):

    def test_modes_that_are_no_list(self):
        for value in [*every_value(), ("a", "b"), {"a": 1}, "a"]:
            if not isinstance(value, list):
                self.assert_error("InvalidModes", value, Strengths, value, [])
                self.assert_error("InvalidModes", value, Strengths, value, None)

    def test_modes_that_are_no_names(self):
        for value in [*INTEGERS, *SPANS, *others()]:
            self.assert_error("InvalidName", value, Strengths, [value], [])
            self.assert_error("InvalidName", value, Strengths, ["a", value, "b"], [])
            self.assert_error("InvalidName", value, Strengths, ["a", value, value], None)

    def test_modes_that_come_twice(self):
        self.assert_error("Duplicate", "a", Strengths, ["a", "a"], [])
        self.assert_error("Duplicate", "b", Strengths, ["a", "b", "c", "b", "a"], [])
        self.assert_error("Duplicate", "h", Strengths, [*EIGHT, "h"], [])

    def test_item_by_item(self):
        self.assert_error("Duplicate", "a", Strengths, ["a", "a", "A"], [])
        self.assert_error("InvalidName", "A", Strengths, ["a", "A", "a"], [])
        self.assert_error("InvalidName", "table", Strengths, ["table", "a", "a"], [])
        self.assert_error("InvalidName", 1, Strengths, [*EIGHT, "i", 1, 1], [])

    def test_one_mode_eight_nine_and_none(self):
        self.assertEqual(Strengths(["a"], []).modes(), ["a"])
        self.assertEqual(Strengths(EIGHT, []).modes(), EIGHT)
        for modes in ([], [*EIGHT, "i"], [chr(97 + at) for at in range(26)]):
            self.assert_error("InvalidModes", modes, Strengths, modes, [])
            self.assert_error("InvalidModes", modes, Strengths, modes, None)

    def test_clashes_that_are_no_list(self):
        for value in every_value():
            if not isinstance(value, list):
                self.assert_error("InvalidStrengths", value, Strengths, ["a"], value)

    def test_clashes_that_are_no_tuples_of_two(self):
        for value in [*every_value(), ("a",), ("a", "a", "a"), ["a", "a"], "aa", {"a": "a"}]:
            if not isinstance(value, tuple) or len(value) != 2:
                self.assert_error("InvalidClash", value, Strengths, ["a"], [("a", "a"), value])

    def test_clashes_of_what_is_no_mode(self):
        for value in every_value():
            if value != "a":
                self.assert_error("UnknownMode", value, Strengths, ["a"], [(value, "a")])
                self.assert_error("UnknownMode", value, Strengths, ["a"], [("a", value)])
                self.assert_error("UnknownMode", value, Strengths, ["a"], [(value, "x")])

    def test_clashes_item_by_item(self):
        self.assert_error("UnknownMode", "c", Strengths, ["a", "b"], [("a", "b"), ("c", "d"), "a"])
        self.assert_error("InvalidClash", "a", Strengths, ["a", "b"], ["a", ("c", "d")])
        self.assert_error("UnknownMode", "d", Strengths, ["a", "b"], [("a", "d"), ("c", "d")])

    def test_a_clash_in_both_orders_and_twice(self):
        one = Strengths(["a", "b"], [("a", "b")])
        for clashes in ([("b", "a")], [("a", "b"), ("b", "a")], [("a", "b"), ("a", "b")], [("b", "a")] * 3):
            other = Strengths(["a", "b"], clashes)
            self.assertEqual(other, one)
            self.assertEqual(told(other), told(one))
            self.assertEqual(other.clashes(), [("a", "b")])

    def test_lists_that_are_changed_later_have_no_effect(self):
        modes, clashes = ["a", "b", "c"], [("a", "b"), ("c", "c")]
        known = Strengths(modes, clashes)
        before = told(known)
        modes[0] = "x"
        modes.append("d")
        clashes.append(("a", "c"))
        del clashes[0]
        self.assertEqual(told(known), before)

    def test_lists_are_not_modified(self):
        modes, clashes = ["b", "a"], [("a", "b"), ("b", "a")]
        Strengths(modes, clashes)
        self.assertEqual([modes, clashes], [["b", "a"], [("a", "b"), ("b", "a")]])


class TestModes(Case):

    def test_clashes_of_the_standard_modes(self):
        known = standard()
        self.assertEqual(known.modes(), ["read", "write", "share", "alone"])
        self.assertEqual(len(known), 4)
        table = {
            "read": ["alone"], "write": ["share", "alone"], "share": ["write", "alone"],
            "alone": ["read", "write", "share", "alone"],
        }
        for one, other in itertools.product(known.modes(), repeat=2):
            self.assertIs(known.clash(one, other), other in table[one])
        self.assertEqual(known.clashes(), [
            ("read", "alone"), ("write", "share"), ("write", "alone"), ("share", "alone"), ("alone", "alone"),
        ])

    def test_weaker_of_the_standard_modes(self):
        known = standard()
        weaker = [pair for pair in itertools.product(known.modes(), repeat=2) if known.weaker(*pair)]
        self.assertEqual(weaker, [
            ("read", "read"), ("read", "write"), ("read", "share"), ("read", "alone"), ("write", "write"),
            ("write", "alone"), ("share", "share"), ("share", "alone"), ("alone", "alone"),
        ])
        self.assertEqual([known.weakest(), known.strongest()], [["read"], ["alone"]])
        steps = [known.steps_down(mode) for mode in known.modes()]
        self.assertEqual(steps, [[], ["read"], ["read"], ["write", "share"]])

    def test_all_small_strengths(self):
        for known in small_strengths():
            self.check_strengths(known)

    def check_strengths(self, known):
        """All that strengths tell follows from the clashes."""
        modes = known.modes()
        against = {mode: {other for other in modes if known.clash(mode, other)} for mode in modes}
        for one, other in itertools.product(modes, repeat=2):
            self.assertIs(known.clash(one, other), known.clash(other, one))
            self.assertIs(known.weaker(one, other), against[one] <= against[other])
        self.assertEqual(known.clashes(), [pair for pair in PAIRS if pair[1] in against[pair[0]]])
        weakest = [mode for mode in modes if not [other for other in modes if against[other] < against[mode]]]
        strongest = [mode for mode in modes if not [other for other in modes if against[other] > against[mode]]]
        self.assertEqual(known.weakest(), weakest)
        self.assertEqual(known.strongest(), strongest)
        for mode in modes:
            lower = [one for one in modes if against[one] < against[mode] and not [
                other for other in modes if against[one] < against[other] < against[mode]]]
            self.assertEqual(known.steps_down(mode), lower)

    def test_modes_that_are_as_strong_as_each_other(self):
        known = Strengths(["d", "c", "b", "a"], [("a", "a"), ("a", "b"), ("b", "b")])
        self.assertEqual(known.weakest(), ["d", "c"])
        self.assertEqual(known.strongest(), ["b", "a"])
        self.assertEqual([known.steps_down(mode) for mode in known.modes()], [[], [], ["d", "c"], ["d", "c"]])
        self.assertIs(known.weaker("a", "b"), True)
        self.assertIs(known.weaker("b", "a"), True)

    def test_steps_with_equals_between(self):
        clashes = [("c", "x"), ("b", "x"), ("a", "x"), ("b", "y"), ("a", "y"), ("d", "x"), ("d", "y"), ("a", "z")]
        known = Strengths(["a", "b", "c", "d", "x", "y", "z"], clashes)
        self.assertEqual(known.steps_down("a"), ["b", "d"])
        self.assertEqual(known.steps_down("b"), ["c"])
        self.assertEqual(known.steps_down("d"), ["c"])
        self.assertEqual(known.steps_down("c"), [])

    def test_one_mode(self):
        for clashes in ([], [("a", "a")]):
            known = Strengths(["a"], clashes)
            self.assertEqual([known.weakest(), known.strongest(), known.steps_down("a")], [["a"], ["a"], []])
            self.assertEqual(known.clashes(), clashes)
            self.assertIs(known.clash("a", "a"), clashes != [])

    def test_clashes_in_the_order_of_the_modes(self):
        known = Strengths(["c", "a", "b"], [("a", "b"), ("b", "c"), ("a", "a"), ("a", "c"), ("c", "c"), ("b", "b")])
        expected = [("c", "c"), ("c", "a"), ("c", "b"), ("a", "a"), ("a", "b"), ("b", "b")]
        self.assertEqual(known.clashes(), expected)
        self.assertEqual(str(known), "c a b: c!c c!a c!b a!a a!b b!b")

    def test_values_that_are_no_modes(self):
        known = standard()
        for value in [*every_value(), "Read", "read ", "table", ["read"], ("read",)]:
            for call in (known.clash, known.weaker):
                self.assert_error("UnknownMode", value, call, value, "read")
                self.assert_error("UnknownMode", value, call, "read", value)
                self.assert_error("UnknownMode", value, call, value, "x")
            self.assert_error("UnknownMode", value, known.steps_down, value)

    def test_lists_that_were_returned_may_be_changed(self):
        known = standard()
        before = told(known)
        for row in (known.modes(), known.clashes(), known.weakest(), known.strongest(), known.steps_down("alone")):
            row.append("x")
            row[0] = "y"
        self.assertEqual(told(known), before)

    def test_equality(self):
        for one, other in itertools.product(small_strengths(), repeat=2):
            self.assertIs(one == other, one.clashes() == other.clashes())
            self.assertIs(one != other, one.clashes() != other.clashes())
        self.assertIs(Strengths(["a", "b"], []) == Strengths(["b", "a"], []), False)
        self.assertIs(Strengths(["a", "b"], [("a", "b")]) == Strengths(["b", "a"], [("a", "b")]), False)
        self.assertIs(Strengths(["a"], []) == Strengths(["b"], []), False)
        self.assertIs(Strengths(["a"], []) == Strengths(["a", "b"], []), False)
        self.assertIs(standard() == standard(), True)

    def test_no_strengths_equal_a_value_of_another_kind(self):
        known = Strengths(["q"], [("q", "q")])
        for value in [*every_value(), str(known), known.modes(), told(known)]:
            self.assertIs(known == value, False)
            self.assertIs(value == known, False)
            self.assertIs(known != value, True)


TEXTS = {
    "a": (["a"], []),
    "a: a!a": (["a"], [("a", "a")]),
    "b a": (["b", "a"], []),
    "b a: b!a": (["b", "a"], [("a", "b")]),
    "read write: read!write write!write": (["read", "write"], [("write", "write"), ("write", "read")]),
    "c a b: c!c c!b a!a a!b": (["c", "a", "b"], [("a", "b"), ("a", "a"), ("b", "c"), ("c", "c")]),
    "a b c d e f g h": (EIGHT, []),
    "a b c d e f g h: a!h h!h": (EIGHT, [("h", "h"), ("h", "a")]),
    "abcdefgh zzzzzzzz: abcdefgh!zzzzzzzz": (["abcdefgh", "zzzzzzzz"], [("zzzzzzzz", "abcdefgh")]),
}

NO_TEXTS = [
    "", " ", ":", ": ", "!", "a!a", ": a!a", "\n", "empty ", "A", "a1", "table", "a table", "abcdefghi",
    # No clashes behind the colon, or clashes without modes.
    "a:", "a: ", "a:  ", "a : a!a", "a b!b", "a a!a",
    # Clashes in another order, twice, or with the later mode first.
    "a b: b!a", "a b: a!b a!b", "a b: b!b a!a", "a b: a!b a!a", "a b: a!b b!a", "a: a!a a!a", "b a: a!b",
    # A space or a colon too many or too few.
    " a", "a ", "a  b", "a b : a!b", "a b:a!b", "a b:  a!b", "a b: a!b ", "a b: a!a  a!b", "a b:: a!b", "a b: : a!b",
    "a b: a!b:", "a b: a!b: ", "a b: a !b", "a b: a! b", "a b: a ! b", "a: b: a!b", "a b a!b", "ab: a!b", "a\nb", "a\n",
    "a b: a!b\n", "a, b", "a b: a!a, a!b", "a b: a!aa!b",
    # Clashes that are none, or of what is no mode.
    "a b: a", "a b: a!", "a b: !a", "a b: a!b!a", "a b: a!!b", "a b: ab", "a b: a!c", "a b: c!a", "a b: a!table",
    # Modes that come twice, or too many.
    "a a", "a a: a!a", "a b c d e f g h i", "a b c d e f g h i: a!a",
]


class TestTexts(Case):

    def test_texts_and_back(self):
        for text, (modes, clashes) in TEXTS.items():
            known = Strengths(modes, clashes)
            self.assertEqual(str(known), text)
            self.assertEqual(read_strengths(text), known)
            self.assertIs(type(read_strengths(text)), Strengths)

    def test_all_small_strengths(self):
        texts = []
        for known in small_strengths():
            texts.append(str(known))
            self.assertEqual(read_strengths(str(known)), known)
        self.assertEqual(len(set(texts)), 64)

    def test_the_standard_strengths(self):
        text = "read write share alone: read!alone write!share write!alone share!alone alone!alone"
        self.assertEqual(str(standard()), text)
        self.assertEqual(read_strengths(text), standard())

    def test_strings_that_are_no_texts(self):
        for text in NO_TEXTS:
            self.assert_error("InvalidText", text, read_strengths, text)

    def test_values_of_every_kind(self):
        for value in every_value():
            if value not in [*NAMES, "a b"]:
                self.assert_error("InvalidText", value, read_strengths, value)

    def test_a_character_too_many_or_too_few(self):
        self.assert_exact(read_strengths, str, TEXTS, " :!ab\n")


if __name__ == "__main__":
    unittest.main()
