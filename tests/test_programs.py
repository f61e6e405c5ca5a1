"""Tests of [5], [51] and [52]: the steps that sessions of each kind may have, and their programs."""

import itertools
import unittest

from hungparts import programs
from hungparts.programs import is_program, is_step
from tests.helper import KINDS, NAMES, NO_NAMES, Case, every_value, others

CHANGES = ["hang", "take", "split", "join"]

# The kinds that may have each step, as [51] lists them; of a lock without its mode.
STEPS = {
    ("look",): ["put", "strike", "read"],
    ("again",): ["put", "strike", "read"],
    ("lock", "table"): ["put", "strike", "read", "hang", "take", "split", "join"],
    ("lock", "part"): ["put", "strike", "read", "direct"],
    ("border",): ["direct"],
    ("key",): ["put", "direct"],
    ("put",): ["put", "direct"],
    ("claim",): ["put", "direct"],
    ("strike",): ["strike"],
    ("view",): ["read"],
    ("read",): ["read"],
    ("lock", "old"): ["take", "split", "join"],
    ("lock", "new"): ["hang", "split", "join"],
    ("lock", "rest"): CHANGES,
    ("switch",): CHANGES,
    ("wait",): CHANGES,
    ("close",): CHANGES,
    ("scan", "new"): ["hang"],
    ("scan", "rest"): ["hang"],
    ("move",): ["split", "join"],
    ("end",): KINDS,
}

SHORTEST = {
    "put": ["look, put, end", "look, claim, end"],
    "strike": ["look, strike, end"],
    "read": ["look, view, read, end", "view, look, read, end"],
    "direct": ["put, end", "claim, end"],
    "hang": ["close", "switch, end"],
    "take": ["close", "switch, end"],
    "split": ["move, close", "move, switch, end"],
    "join": ["move, close", "move, switch, end"],
}

LONG = {
    "put": [
        "lock table m, look, lock part m, lock part n, again, key, again, lock table m, again, claim, lock part o, end",
        "look, again, put, lock part m, lock table m, end", "look, key, claim, end", "look, again, again, put, end",
        "look, key, again, put, end", "lock table m, lock table m, look, put, end",
    ],
    "strike": [
        "lock table m, lock table n, look, again, lock part m, again, lock table m, again, strike, lock part m, "
        "lock table m, end", "look, strike, lock part m, end", "look, again, strike, end",
    ],
    "read": [
        "lock table m, view, look, lock part m, again, lock table m, again, lock part n, again, read, lock part m, end",
        "view, look, again, read, lock table m, end", "look, again, view, again, read, end",
        "look, view, lock part m, read, end",
    ],
    "direct": [
        "lock part m, border, lock part n, key, lock part m, lock part m, put, lock part m, lock part m, lock part o, "
        "lock part o, end", "border, key, claim, end", "key, border, put, end", "put, lock part m, end",
        "key, claim, end", "border, put, end",
    ],
    "hang": [
        "lock new m, scan rest, lock rest m, scan new, lock table m, switch, wait, lock new m, wait, lock rest m, "
        "wait, end", "scan new, close", "scan rest, close", "scan new, scan rest, switch, end", "switch, wait, end",
        "switch, lock new m, end", "lock table m, lock new m, lock rest m, scan new, scan rest, close",
    ],
    "take": [
        "lock rest m, lock old m, lock table m, lock table n, switch, wait, lock old m, wait, lock rest m, wait, wait, "
        "end", "switch, wait, end", "lock old m, close", "switch, lock table m, end", "lock table m, close",
    ],
    "split": [
        "lock table m, lock old m, lock new m, lock rest m, move, lock table n, switch, wait, lock old n, wait, "
        "lock new n, end", "lock table m, lock new m, move, lock old m, lock rest m, close", "move, switch, wait, end",
    ],
    "join": [
        "lock rest m, lock old m, lock new m, lock table m, move, lock table n, switch, wait, lock old n, wait, "
        "lock new n, end", "move, lock table m, close", "move, switch, wait, wait, end",
    ],
}

# Lists of steps of the kind that break one rule of [52].
BROKEN = {
    "put": [
        "look, claim", "look, end", "claim, end", "look, look, claim, end", "look, claim, claim, end",
        "look, put, put, end", "look, put, claim, end", "look, claim, put, end", "end, look, claim", "end",
        "look, end, claim, end", "look, claim, end, end", "look, claim, end, lock table m", "claim, look, end",
        "lock part m, look, claim, end", "again, look, claim, end", "key, look, claim, end", "put, look, end",
        "look, key, key, put, end", "look, claim, again, end", "look, claim, key, end", "look, put, key, end",
        "look, again, put, again, end", "look, key, put, key, end", "look, claim, look, end",
    ],
    "strike": [
        "look, strike", "look, end", "strike, end", "look, look, strike, end", "look, strike, strike, end",
        "strike, look, end", "look, end, strike", "look, strike, again, end", "lock part m, look, strike, end",
        "again, look, strike, end", "look, strike, end, end", "end, look, strike, end", "look, strike, look, end",
    ],
    "read": [
        "look, view, read", "view, read, end", "look, read, end", "look, view, end", "look, look, view, read, end",
        "look, view, view, read, end", "look, view, read, read, end", "look, read, view, end", "view, read, look, end",
        "look, view, read, again, end", "lock part m, look, view, read, end", "again, look, view, read, end",
        "view, again, look, read, end", "look, view, end, read", "look, view, read, end, end",
        "end, look, view, read, end",
        "view, lock part m, look, read, end", "read, look, view, end", "view, look, view, read, end",
    ],
    "direct": [
        "put", "end", "put, put, end", "claim, claim, end", "put, claim, end", "claim, put, end", "end, put",
        "border, border, put, end", "key, key, put, end", "put, border, end", "put, key, end", "claim, border, end",
        "claim, key, end", "border, put, border, end", "put, end, end", "end, put, end", "border, end", "key, end",
    ],
    "hang": [
        "end", "switch", "switch, close", "close, end", "close, close", "switch, switch, end", "close, switch, end",
        "switch, end, end", "end, switch, end", "end, close", "switch, end, close", "wait, close", "wait, switch, end",
        "wait, switch, wait, end", "switch, scan new, end", "switch, scan rest, end", "scan new, scan new, close",
        "scan rest, scan rest, close", "scan new, switch, scan new, end", "scan new, end", "close, wait",
        "close, scan new",
        "scan new, switch", "close, lock table m", "lock table m", "scan new, wait, close",
    ],
    "take": [
        "end", "switch", "switch, close", "close, end", "close, close", "switch, switch, end", "switch, end, end",
        "end, close", "wait, close", "wait, switch, end", "lock table m, end", "close, wait", "lock table m",
    ],
    "split": [
        "close", "switch, end", "move, end", "move", "move, switch", "move, move, close", "switch, move, end",
        "move, switch, move, end", "move, switch, switch, end", "move, switch, close", "move, close, end",
        "close, move",
        "move, wait, close", "wait, move, switch, end", "move, wait, switch, end", "move, switch, end, end", "end",
        "move, end, switch, end", "move, close, close",
    ],
    "join": [
        "close", "switch, end", "move, end", "move", "move, switch", "move, move, close", "switch, move, end",
        "move, switch, move, end", "move, switch, switch, end", "move, switch, close", "move, close, end",
        "close, move",
        "move, wait, close", "wait, move, switch, end", "move, wait, switch, end", "end", "move, close, close",
    ],
}


def steps_of(text):
    """The list of steps with a text."""
    return [tuple(step.split(" ")) for step in text.split(", ")]


def whole(step):
    """A step of the table with a mode, if it is a lock."""
    return (*step, "m") if step[0] == "lock" else step


def by_definition(steps, kind):
    """What [52] tells of a list of steps of a kind, rule by rule."""
    words = [step[0] for step in steps]
    acts = [at for at, word in enumerate(words) if word in ("put", "claim", "strike", "read")]
    if not 1 <= len(steps) <= 12 or words[-1] not in ("end", "close") or "end" in words[:-1] or "close" in words[:-1]:
        return False
    if kind in CHANGES:
        switches = [at for at, word in enumerate(words) if word in ("switch", "close")]
        moves = [at for at, word in enumerate(words) if word in ("move", "scan")]
        if len(switches) != 1 or [at for at in moves if at > switches[0]]:
            return False
        if kind in ("split", "join") and words.count("move") != 1:
            return False
        if max(steps.count(("scan", "new")), steps.count(("scan", "rest"))) > 1:
            return False
        return all("switch" in words[:at] for at, word in enumerate(words) if word == "wait")
    if len(acts) != 1 or words.count("border") > 1 or words.count("key") > 1:
        return False
    if any(word in ("border", "key", "again") for word in words[acts[0]:]):
        return False
    if kind == "direct":
        return True
    if words.count("look") != 1 or (kind == "read" and words.count("view") != 1):
        return False
    if any(step[:2] == ("lock", "part") or step[0] in ("again", "key") for step in steps[:words.index("look")]):
        return False
    return words.index("look") < acts[0] and (kind != "read" or words.index("view") < acts[0])


class TestSteps(Case):

    def test_functions_stand_in_the_file(self):
        for name in ("is_step", "is_program"):
            self.assertEqual(getattr(programs, name).__module__, "hungparts.programs")

    def test_every_step_for_every_kind(self):
        for step, kinds in STEPS.items():
            for kind in KINDS:
                self.assertIs(is_step(whole(step), kind), kind in kinds, (step, kind))

    def test_arguments_may_be_passed_by_name(self):
        self.assertIs(is_step(kind="put", value=("look",)), True)
        self.assertIs(is_program(kind="take", value=[("close",)]), True)

    def test_the_mode_is_any_name(self):
        for step, kinds in STEPS.items():
            if step[0] == "lock":
                for mode in [*NAMES, "read", "end"]:
                    self.assertIs(is_step((*step, mode), kinds[0]), True)
                for mode in [*NO_NAMES, *others()]:
                    self.assertIs(is_step((*step, mode), kinds[0]), False)

    def test_an_item_more_or_less_or_a_list(self):
        for step, kinds in STEPS.items():
            right = whole(step)
            for kind in kinds:
                for wrong in (
                    list(right), (*right, "m"), (*right, None), right[:-1], right[1:], (right,), [right],
                    " ".join(right),
                    (" ".join(right),), dict(enumerate(right)), (right[0].upper(), *right[1:]), (*right, "m", "n"),
                ):
                    self.assertIs(is_step(wrong, kind), wrong == right, wrong)

    def test_what_is_locked_or_scanned(self):
        for kind in KINDS:
            for thing in ("a", "", "Table", "catalog", None, 1, ["table"], ("table",)):
                self.assertIs(is_step(("lock", thing, "m"), kind), False)
            for thing in ("old", "part", "table", "a", None, ["new"]):
                self.assertIs(is_step(("scan", thing), kind), False)
            self.assertIs(is_step(("scan", "new", "m"), kind), False)
            self.assertIs(is_step(("scan",), kind), False)

    def test_values_of_every_kind(self):
        for value in every_value():
            for kind in KINDS:
                self.assertIs(is_step(value, kind), False)
                self.assertIs(is_program(value, kind), False)

    def test_what_is_no_kind(self):
        for value in [*every_value(), "Put", "put ", ["put"], ("put",), "end", "look", "claim", "table"]:
            self.assert_error("NoProgram", value, is_step, ("end",), value)
            self.assert_error("NoProgram", value, is_step, None, value)
            self.assert_error("NoProgram", value, is_program, [("end",)], value)
            self.assert_error("NoProgram", value, is_program, None, value)


class TestPrograms(Case):

    def test_the_shortest_programs(self):
        for kind, texts in SHORTEST.items():
            for text in texts:
                steps = steps_of(text)
                self.assertIs(is_program(steps, kind), True, text)
                for at in range(len(steps)):
                    self.assertIs(is_program(steps[:at] + steps[at + 1:], kind), False)

    def test_long_programs(self):
        for kind, texts in LONG.items():
            for text in texts:
                self.assertIs(is_program(steps_of(text), kind), True, text)
            self.assertEqual(max(len(steps_of(text)) for text in texts), 12)

    def test_each_rule_broken_alone(self):
        for kind, texts in BROKEN.items():
            for text in texts:
                self.assertTrue(all(is_step(step, kind) for step in steps_of(text)), text)
                self.assertIs(is_program(steps_of(text), kind), False, (kind, text))

    def test_no_step_twelve_and_thirteen(self):
        for kind in KINDS:
            thing = "part" if kind == "direct" else "table"
            right = steps_of(SHORTEST[kind][0])
            lock = ("lock", thing, "m")
            last = right[-2:] if kind not in ("hang", "take") else right
            first = right[:len(right) - len(last)]
            for many in range(14):
                steps = [*first, *[lock] * many, *last]
                self.assertIs(is_program(steps, kind), len(steps) <= 12)
            self.assertIs(is_program([], kind), False)

    def test_what_is_no_list_or_has_what_is_no_step(self):
        for kind, texts in SHORTEST.items():
            for text in texts:
                steps = steps_of(text)
                for wrong in (tuple(steps), text, dict(enumerate(steps)), [steps], [list(step) for step in steps]):
                    self.assertIs(is_program(wrong, kind), False)
                for value in [*every_value(), ("lock", "table"), ("lock",), ("table", "m"), ("lock", "table", "M")]:
                    self.assertIs(is_program([value, *steps], kind), False)

    def test_steps_of_other_kinds(self):
        for kind, texts in SHORTEST.items():
            for step, kinds in STEPS.items():
                if kind not in kinds:
                    self.assertIs(is_program([whole(step), *steps_of(texts[0])], kind), False)

    def test_all_short_lists_of_steps(self):
        for kind in KINDS:
            steps = [whole(step) for step in STEPS if kind in STEPS[step]]
            found = 0
            for many in range(1, 6 if len(steps) < 8 else 5):
                for row in itertools.product(steps, repeat=many):
                    expected = by_definition(list(row), kind)
                    self.assertIs(is_program(list(row), kind), expected, (row, kind))
                    found += expected
            self.assertGreater(found, 5)

    def test_the_definition_agrees_with_the_lists(self):
        for kind in KINDS:
            for text in [*SHORTEST[kind], *LONG[kind]]:
                self.assertTrue(by_definition(steps_of(text), kind))
            for text in BROKEN[kind]:
                self.assertFalse(by_definition(steps_of(text), kind))

    def test_the_example_of_the_document(self):
        self.assertIs(is_program([("look",), ("claim",), ("end",)], "put"), True)
        self.assertIs(is_program([("claim",), ("look",), ("end",)], "put"), False)

    def test_the_list_is_not_modified(self):
        steps = steps_of(LONG["put"][0])
        is_program(steps, "put")
        self.assertEqual(steps, steps_of(LONG["put"][0]))


if __name__ == "__main__":
    unittest.main()
