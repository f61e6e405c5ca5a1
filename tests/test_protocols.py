"""Tests of [5] and [53] to [57]: protocols, their texts, and how they differ in the modes of their locks."""

import itertools
import unittest

from hungparts import protocols
from hungparts.programs import is_program
from hungparts.protocols import Rulebook, places, plain_protocol, read_protocol, weaker_protocol, with_mode
from hungparts.strengths import Strengths, read_strengths, standard
from tests.helper import INTEGERS, KINDS, Case, every_value, rules

METHODS = [
    "__init__", "strengths", "kinds", "program", "with_program", "without_step", "__eq__", "__str__",
]
FUNCTIONS = ["Rulebook", "weaker_protocol", "places", "with_mode", "read_protocol", "plain_protocol"]
PUT = [("look",), ("lock", "table", "write"), ("claim",), ("end",)]
TAKE = [("lock", "table", "alone"), ("close",)]

PLAIN = """read write share alone: read!alone write!share write!alone share!alone alone!alone
put: look, lock table write, again, claim, end
strike: look, lock table write, again, strike, end
read: look, lock table read, again, view, read, end
direct: lock part write, border, claim, end
hang: lock table alone, lock new alone, lock rest alone, scan new, scan rest, close
take: lock table alone, close
split: lock table alone, lock old alone, lock new alone, move, close
join: lock table alone, lock old alone, lock new alone, move, close"""


def told(protocol):
    """All that a protocol tells of itself."""
    programs = {kind: protocol.program(kind) for kind in protocol.kinds()}
    return protocol.strengths, protocol.kinds(), programs, str(protocol), places(protocol)


def no_programs(kind):
    """Values that are no programs of a kind."""
    found = [value for value in every_value() if not isinstance(value, list) or value != []]
    return [*found, [], [("end",)], [("look",)], tuple(PUT), str(PUT), [*PUT, ("end",)], [list(step) for step in PUT]]


class TestInterface(Case):

    def test_methods_stand_in_the_class_and_functions_in_the_file(self):
        for name in METHODS:
            self.assertIn(name, vars(Rulebook))
        self.assertIsInstance(vars(Rulebook)["strengths"], property)
        for name in FUNCTIONS:
            self.assertEqual(getattr(protocols, name).__module__, "hungparts.protocols")

    def test_arguments_may_be_passed_by_name(self):
        protocol = Rulebook(programs={"put": PUT}, strengths=standard())
        self.assertEqual(protocol.program(kind="put"), PUT)
        self.assertEqual(protocol.with_program(program=TAKE, kind="take").kinds(), ["put", "take"])
        self.assertEqual(len(protocol.without_step(index=1, kind="put").program("put")), 3)
        self.assertIs(weaker_protocol(other=protocol, one=protocol), True)
        self.assertEqual(places(protocol=protocol), [("put", 1)])
        changed = with_mode(mode="read", place=("put", 1), protocol=protocol)
        self.assertEqual(changed.program("put")[1], ("lock", "table", "read"))
        self.assertEqual(read_protocol(text=str(protocol)), protocol)

    def test_the_strengths_cannot_be_set(self):
        with self.assertRaises(AttributeError):
            plain_protocol().strengths = standard()


class TestConstructor(Case):

    def test_strengths_that_are_none(self):
        for value in every_value():
            if not isinstance(value, Strengths):
                self.assert_error("InvalidStrengths", value, Rulebook, value, {})
                self.assert_error("InvalidStrengths", value, Rulebook, value, None)

    def test_programs_that_are_no_dict(self):
        for value in every_value():
            if not isinstance(value, dict):
                self.assert_error("InvalidPrograms", value, Rulebook, standard(), value)

    def test_keys_that_are_no_kinds(self):
        for value in [*INTEGERS, "Put", "put ", "", "end", "table", "a"]:
            self.assert_error("NoProgram", value, Rulebook, standard(), {value: PUT})
            self.assert_error("NoProgram", value, Rulebook, standard(), {"take": TAKE, value: PUT, "put": None})

    def test_the_first_key_in_the_order_of_the_dict_counts(self):
        self.assert_error("NoProgram", "z", Rulebook, standard(), {"take": None, "z": PUT, "a": PUT, 1: PUT})
        self.assert_error("NoProgram", 1, Rulebook, standard(), {1: PUT, "z": PUT, "a": PUT})
        self.assert_error("NoProgram", "a", Rulebook, standard(), {"a": PUT, "z": PUT, 1: PUT})

    def test_values_that_are_no_programs(self):
        for kind in KINDS:
            for value in no_programs(kind):
                self.assert_error("InvalidProgram", value, Rulebook, standard(), {kind: value})

    def test_a_program_of_another_kind(self):
        for one, other in itertools.permutations(KINDS, 2):
            steps = plain_protocol().program(one)
            if not is_program(steps, other):
                self.assert_error("InvalidProgram", steps, Rulebook, standard(), {other: steps})

    def test_kind_by_kind(self):
        bad_put, bad_mode = [("end",)], [("lock", "table", "x"), ("close",)]
        self.assert_error("InvalidProgram", bad_put, Rulebook, standard(), {"take": bad_mode, "put": bad_put})
        self.assert_error("UnknownMode", "x", Rulebook, standard(), {"split": bad_put, "take": bad_mode, "put": PUT})
        self.assert_error("InvalidProgram", bad_put, Rulebook, standard(), {"join": bad_mode, "split": bad_put})
        self.assert_error("NoProgram", "x", Rulebook, standard(), {"put": bad_put, "x": PUT})
        bad_strike = None
        self.assert_error("InvalidProgram", bad_put, Rulebook, standard(), {"strike": bad_strike, "put": bad_put})
        for one, other in itertools.combinations(KINDS, 2):
            self.assert_error("InvalidProgram", bad_put, Rulebook, standard(), {other: None, one: bad_put})

    def test_the_first_lock_with_an_unknown_mode(self):
        for modes, told_mode in [(["x", "y"], "x"), (["write", "y"], "y"), (["y", "write"], "y"), (["y", "x"], "y")]:
            steps = [("lock", "table", modes[0]), ("look",), ("lock", "part", modes[1]), ("put",), ("end",)]
            self.assert_error("UnknownMode", told_mode, Rulebook, standard(), {"put": steps})
            self.assert_error("UnknownMode", told_mode, plain_protocol().with_program, "put", steps)
        self.assert_error("UnknownMode", "alone", Rulebook, Strengths(["write"], []), {"put": PUT, "take": TAKE})

    def test_lists_and_dicts_that_are_changed_later_have_no_effect(self):
        put, given = list(PUT), {}
        given["take"] = TAKE
        given["put"] = put
        protocol = Rulebook(standard(), given)
        before = told(protocol)
        put[0] = ("end",)
        put.append(("end",))
        given["join"] = []
        del given["take"]
        self.assertEqual(told(protocol), before)
        other = protocol.with_program("put", put := list(PUT))
        put.clear()
        self.assertEqual(other, protocol)

    def test_arguments_are_not_modified(self):
        put, given = list(PUT), {"take": list(TAKE)}
        given["put"] = put
        Rulebook(standard(), given)
        self.assertEqual(list(given.items()), [("take", TAKE), ("put", PUT)])


class TestRulebook(Case):

    def test_kinds_come_in_their_order(self):
        programs = {kind: plain_protocol().program(kind) for kind in KINDS}
        for many in range(9):
            for kinds in itertools.combinations(KINDS, many):
                protocol = Rulebook(standard(), {kind: programs[kind] for kind in reversed(kinds)})
                self.assertEqual(protocol.kinds(), list(kinds))
                for kind in kinds:
                    self.assertEqual(protocol.program(kind), programs[kind])
                self.assertEqual(protocol, Rulebook(standard(), {kind: programs[kind] for kind in kinds}))

    def test_programs_of_what_has_none(self):
        protocol = rules("put: look, put, end", "take: close")
        for value in [*every_value(), "strike", "Put", ["put"], ("put",), "end"]:
            self.assert_error("NoProgram", value, protocol.program, value)
            self.assert_error("NoProgram", value, protocol.without_step, value, 0)
            self.assert_error("NoProgram", value, protocol.without_step, value, None)

    def test_lists_that_were_returned_may_be_changed(self):
        protocol = plain_protocol()
        before = told(protocol)
        protocol.kinds().clear()
        protocol.program("put").append(("end",))
        protocol.program("put")[0] = ("end",)
        places(protocol).clear()
        self.assertEqual(told(protocol), before)

    def test_with_program(self):
        protocol = rules("put: look, put, end", "take: close")
        more = protocol.with_program("read", [("look",), ("view",), ("read",), ("end",)])
        self.assertEqual(more, rules("put: look, put, end", "read: look, view, read, end", "take: close"))
        other = protocol.with_program("put", PUT)
        self.assertEqual(other, rules("put: look, lock table write, claim, end", "take: close"))
        self.assertEqual(protocol, rules("put: look, put, end", "take: close"))

    def test_with_program_of_what_is_no_kind(self):
        for value in [*every_value(), "Put", "table"]:
            self.assert_error("NoProgram", value, plain_protocol().with_program, value, PUT)
            self.assert_error("NoProgram", value, plain_protocol().with_program, value, None)

    def test_with_program_that_is_none(self):
        protocol = rules("take: close")
        for kind in KINDS:
            for value in no_programs(kind):
                self.assert_error("InvalidProgram", value, protocol.with_program, kind, value)
        bad = [("lock", "table", "x"), ("look",)]
        self.assert_error("InvalidProgram", bad, protocol.with_program, "put", bad)

    def test_without_step(self):
        protocol = plain_protocol()
        before = told(protocol)
        for kind in KINDS:
            steps = protocol.program(kind)
            for index in range(len(steps)):
                left = steps[:index] + steps[index + 1:]
                if is_program(left, kind):
                    other = protocol.without_step(kind, index)
                    self.assertEqual(other.program(kind), left)
                    self.assertEqual(other, protocol.with_program(kind, left))
                else:
                    with self.assertRaises(ValueError) as caught:
                        protocol.without_step(kind, index)
                    self.assertEqual(type(caught.exception).__name__, "InvalidProgram")
                    self.assertEqual(caught.exception.value, left)
                    self.assertIs(type(caught.exception.value), list)
        self.assertEqual(told(protocol), before)

    def test_without_steps_that_are_needless_and_needed(self):
        found = [index for index in range(5) if is_program(
            [*plain_protocol().program("put")[:index], *plain_protocol().program("put")[index + 1:]], "put")]
        self.assertEqual(found, [1, 2])
        text = "put: look, again, claim, end"
        self.assertIn(text, str(plain_protocol().without_step("put", 1)).split("\n"))

    def test_the_only_step(self):
        with self.assertRaises(ValueError) as caught:
            rules("take: close").without_step("take", 0)
        self.assertEqual(caught.exception.value, [])

    def test_indexes_that_are_none(self):
        protocol = plain_protocol()
        for kind in KINDS:
            many = len(protocol.program(kind))
            wrong = [value for value in every_value() if isinstance(value, bool) or not isinstance(value, int)]
            for value in [*wrong, -1, many, many + 1, -many, 10 ** 29, "0", [0], (0,)]:
                self.assert_error("InvalidNumber", value, protocol.without_step, kind, value)

    def test_equality(self):
        protocol = rules("put: look, put, end", "take: close")
        same = Rulebook(standard(), {"take": [("close",)], "put": [("look",), ("put",), ("end",)]})
        self.assertIs(protocol == same, True)
        self.assertIs(protocol != same, False)
        for other in (
            rules("put: look, put, end"), rules("put: look, claim, end", "take: close"), rules(),
            rules("put: look, put, end", "take: switch, end"), rules("put: look, put, end", "hang: close"),
            read_protocol("write\nput: look, put, end\ntake: close"), plain_protocol(),
        ):
            self.assertIs(protocol == other, False)
            self.assertIs(protocol != other, True)
        one, other = read_strengths("a b: a!b"), read_strengths("b a: b!a")
        self.assertIs(Rulebook(one, {}) == Rulebook(other, {}), False)

    def test_no_protocol_equals_a_value_of_another_kind(self):
        protocol = rules("put: look, put, end")
        for value in [*every_value(), str(protocol), told(protocol), protocol.strengths]:
            self.assertIs(protocol == value, False)
            self.assertIs(value == protocol, False)
            self.assertIs(protocol != value, True)

    def test_the_strengths(self):
        known = read_strengths("q w: q!w")
        self.assertEqual(Rulebook(known, {}).strengths, known)
        self.assertIs(type(Rulebook(known, {}).strengths), Strengths)


class TestPlaces(Case):

    def test_places_come_in_order(self):
        expected = [
            ("put", 1), ("strike", 1), ("read", 1), ("direct", 0), ("hang", 0), ("hang", 1), ("hang", 2), ("take", 0),
            ("split", 0), ("split", 1), ("split", 2), ("join", 0), ("join", 1), ("join", 2),
        ]
        self.assertEqual(places(plain_protocol()), expected)
        self.assertEqual(places(rules("put: look, put, end")), [])
        self.assertEqual(places(rules()), [])
        text = "put: look, lock part read, put, lock table read, end"
        self.assertEqual(places(rules(text, "take: switch, lock old read, end")), [("put", 1), ("put", 3), ("take", 1)])

    def test_another_mode_at_each_place(self):
        protocol = plain_protocol()
        for kind, index in places(protocol):
            for mode in protocol.strengths.modes():
                steps = protocol.program(kind)
                steps[index] = ("lock", steps[index][1], mode)
                changed = with_mode(protocol, (kind, index), mode)
                self.assertEqual(changed, protocol.with_program(kind, steps))
                self.assertEqual(changed.program(kind), steps)
        self.assertEqual(protocol, plain_protocol())

    def test_places_that_are_none(self):
        protocol = plain_protocol()
        wrong = [
            ("put", 0), ("put", 2), ("put", -1), ("put", 5), ("put", True), ("take", False), ("put", "1"), ("put",
                None),
            ["put", 1], ("put",), ("put", 1, 1), (1, "put"), ("Put", 1), ("end", 1), ("lock", 1), (None, 1), (["put"],
                1),
            {"put": 1}, "put 1", (("put", 1),), [("put", 1)], ("hang", 3), ("hang", True), ("hang", False), ("split",
                True),
        ]
        for value in [*every_value(), *wrong]:
            self.assert_error("InvalidNumber", value, with_mode, protocol, value, "read")
            self.assert_error("InvalidNumber", value, with_mode, protocol, value, "x")

    def test_a_place_of_a_kind_without_a_program(self):
        place = ("strike", 1)
        self.assert_error("InvalidNumber", place, with_mode, rules("put: look, put, end"), place, "read")

    def test_modes_that_are_none(self):
        for value in [*every_value(), "Read", "table", ["read"]]:
            self.assert_error("UnknownMode", value, with_mode, plain_protocol(), ("put", 1), value)

    def test_what_is_no_protocol(self):
        for value in every_value():
            if not isinstance(value, Rulebook):
                self.assert_error("InvalidProtocol", value, places, value)
                self.assert_error("InvalidProtocol", value, with_mode, value, ("put", 1), "read")
                self.assert_error("InvalidProtocol", value, with_mode, value, None, None)
                self.assert_error("InvalidProtocol", value, weaker_protocol, value, rules())
                self.assert_error("InvalidProtocol", value, weaker_protocol, rules(), value)
                self.assert_error("InvalidProtocol", value, weaker_protocol, value, [])


class TestWeaker(Case):

    def test_one_lock_with_all_pairs_of_modes(self):
        known = standard()
        for one, other in itertools.product(known.modes(), repeat=2):
            found = weaker_protocol(rules(f"take: lock table {one}, close"), rules(f"take: lock table {other}, close"))
            self.assertIs(found, known.weaker(one, other))

    def test_several_locks(self):
        one = rules("put: lock table read, look, lock part write, put, end", "take: lock table share, close")
        two = rules("put: lock table read, look, lock part alone, put, end", "take: lock table alone, close")
        three = rules("put: lock table write, look, lock part read, put, end", "take: lock table alone, close")
        found = [weaker_protocol(*pair) for pair in itertools.product([one, two, three], repeat=2)]
        self.assertEqual(found, [True, True, False, False, True, False, False, False, True])

    def test_modes_that_are_as_strong_as_each_other(self):
        text = "a b c: a!c b!c\ntake: lock table {}, lock old {}, close"
        one, other = read_protocol(text.format("a", "b")), read_protocol(text.format("b", "a"))
        self.assertIs(weaker_protocol(one, other), True)
        self.assertIs(weaker_protocol(other, one), True)
        self.assertIs(one == other, False)

    def test_unlike_kinds(self):
        one, other = rules("put: look, put, end"), rules("put: look, put, end", "take: close")
        self.assertIs(weaker_protocol(one, other), False)
        self.assertIs(weaker_protocol(other, one), False)
        self.assertIs(weaker_protocol(rules("hang: close"), rules("take: close")), False)

    def test_unlike_strengths(self):
        one, other = read_protocol("a b: a!b\ntake: close"), read_protocol("a b\ntake: close")
        self.assertIs(weaker_protocol(one, other), False)
        self.assertIs(weaker_protocol(one, read_protocol("b a: b!a\ntake: close")), False)

    def test_steps_that_differ_otherwise(self):
        for one, other in [
            ("put: look, put, end", "put: look, claim, end"),
            ("put: look, put, end", "put: look, lock part alone, put, end"),
            ("put: look, lock table read, put, end", "put: look, lock part read, put, end"),
            ("put: look, lock table read, put, end", "put: look, again, put, end"),
            ("put: look, lock table read, put, end", "put: lock table read, look, put, end"),
            ("take: lock table read, close", "take: lock old alone, close"),
            ("take: close", "take: switch, end"),
            ("hang: scan new, close", "hang: scan rest, close"),
        ]:
            self.assertIs(weaker_protocol(rules(one), rules(other)), False)
            self.assertIs(weaker_protocol(rules(other), rules(one)), False)

    def test_equal_protocols(self):
        self.assertIs(weaker_protocol(plain_protocol(), plain_protocol()), True)
        self.assertIs(weaker_protocol(rules(), rules()), True)


HEAD = "a b: a!b"
NO_TEXTS = [
    "", " ", "\n", HEAD + "\n", "\n" + HEAD, HEAD + " ", "put: look, put, end", HEAD + "\n\ntake: close", "a a",
    "a: b!b",
    # A line feed at the end, and lines that are none.
    HEAD + "\ntake: close\n", HEAD + "\ntake: close\n\n", HEAD + "\n take: close", HEAD + "\ntake: close ",
    HEAD + "\ntake", HEAD + "\ntake:", HEAD + "\ntake: ", HEAD + "\nclose", HEAD + "\n: close", HEAD + "\ntake close",
    # Kinds in another order, twice, or none.
    HEAD + "\ntake: close\nhang: close", HEAD + "\ntake: close\ntake: close",
    HEAD + "\ntake: close\nput: look, put, end",
    HEAD + "\ntake: close\ntake: switch, end", HEAD + "\nTake: close", HEAD + "\ntable: close", HEAD + "\nend: close",
    # A comma, a colon or a space too many or too few.
    HEAD + "\ntake:close", HEAD + "\ntake:  close", HEAD + "\ntake : close", HEAD + "\ntake: close,",
    HEAD + "\ntake: close, ", HEAD + "\ntake: , close", HEAD + "\ntake: switch end", HEAD + "\ntake: switch,end",
    HEAD + "\ntake: switch,  end", HEAD + "\ntake: switch , end", HEAD + "\ntake: switch,, end",
    HEAD + "\ntake: switch, , end", HEAD + "\ntake: lock  table a, close", HEAD + "\ntake: lock table  a, close",
    HEAD + "\ntake: lock table a , close", HEAD + "\ntake: : close", HEAD + "\ntake: take: close",
    HEAD + ", take: close",
    # Programs that are none, and modes that the strengths do not have.
    HEAD + "\ntake: end", HEAD + "\nput: close", HEAD + "\ntake: close, close", HEAD + "\ntake: lock table c, close",
    HEAD + "\ntake: lock table, close", HEAD + "\ntake: lock new a, close", HEAD + "\nput: put, look, end",
    HEAD + "\ntake: lock table a b, close", HEAD + "\ntake: lock table A, close", HEAD + "\ntake: Close",
    HEAD + "\ntake: " + ", ".join(["lock table a"] * 12) + ", close", "a b: b!a\ntake: close", "a b:\ntake: close",
]


class TestTexts(Case):

    def test_the_plain_protocol(self):
        self.assertEqual(str(plain_protocol()), PLAIN)
        self.assertEqual(read_protocol(PLAIN), plain_protocol())
        self.assertIs(type(read_protocol(PLAIN)), Rulebook)
        self.assertEqual(plain_protocol().strengths, standard())
        self.assertEqual(plain_protocol().kinds(), KINDS)
        self.assertEqual(plain_protocol().program("take"), [("lock", "table", "alone"), ("close",)])
        self.assertEqual(plain_protocol().program("hang")[3:], [("scan", "new"), ("scan", "rest"), ("close",)])

    def test_the_line_of_the_document(self):
        self.assertIn("put: look, lock table write, claim, end", str(Rulebook(standard(), {"put": PUT})).split("\n"))

    def test_no_program_one_and_several(self):
        lines = PLAIN.split("\n")
        self.assertEqual(read_protocol(lines[0]), Rulebook(standard(), {}))
        self.assertEqual(str(Rulebook(standard(), {})), lines[0])
        for many in range(9):
            for chosen in itertools.combinations(lines[1:], many):
                text = "\n".join([lines[0], *chosen])
                protocol = read_protocol(text)
                self.assertEqual(str(protocol), text)
                self.assertEqual(protocol.kinds(), [line.split(":")[0] for line in chosen])

    def test_strengths_without_clashes(self):
        text = "a\nput: look, lock part a, put, end\ntake: lock rest a, switch, wait, end"
        self.assertEqual(str(read_protocol(text)), text)
        self.assertEqual(read_protocol("a").kinds(), [])

    def test_strings_that_are_no_texts(self):
        for text in NO_TEXTS:
            self.assert_error("InvalidText", text, read_protocol, text)

    def test_lines_in_every_other_order(self):
        lines = PLAIN.split("\n")
        for one, other in itertools.combinations(range(9), 2):
            swapped = list(lines)
            swapped[one], swapped[other] = lines[other], lines[one]
            self.assert_error("InvalidText", "\n".join(swapped), read_protocol, "\n".join(swapped))
        for line in lines:
            text = "\n".join([*lines, line])
            self.assert_error("InvalidText", text, read_protocol, text)

    def test_values_that_are_no_strings(self):
        for value in every_value():
            if not isinstance(value, str):
                self.assert_error("InvalidText", value, read_protocol, value)
        self.assert_error("InvalidText", protocol := plain_protocol(), read_protocol, protocol)

    def test_a_character_too_many_or_too_few(self):
        text = "a b: a!b\nput: look, lock part a, put, end\ntake: close"
        self.assert_exact(read_protocol, str, [text], " ,:!ab\n")


if __name__ == "__main__":
    unittest.main()
