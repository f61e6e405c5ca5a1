"""Tests of [154] and [155]: the commands of a desk."""

import random
import unittest

from hungparts import errors
from hungparts.catalogs import read_catalog
from hungparts.desk import Desk
from hungparts.errors import PartsError
from hungparts.events import events
from hungparts.fewer import is_small
from hungparts.protocols import Rulebook, plain_protocol, read_protocol
from hungparts.strengths import standard
from hungparts.verdicts import wrong
from hungparts.weavings import read_weaving
from tests.helper import BARE, Case, every_value, rules
from tests.test_desk import all_seen

CARELESS = "read alone: alone!alone | put: look, put, end | direct: put, end | hang: close | take: close"
# Commands that a filled desk carries out, with their answers, one after the other.
COMMANDS = [
    ("names", "none"), ("put plain " + str(plain_protocol()).replace("\n", " | "), "ok"), ("names", "plain"),
    (f"put bare {CARELESS}", "ok"), ("put empty x", "ok"), ("names", "bare empty plain"), ("drop empty", "ok"),
    ("show bare", CARELESS.replace(" | ", "\n")), ("right plain", "right"),
    ("start plain a ..10; rest b | a: 1 2 | b: 12", "ok"), ("catalog", "a ..10; rest b"), ("rows a", "1 2"),
    ("rows b", "12"), ("rows zz", "none"), ("events", "none"), ("begin put 3", "0"), ("begin take a", "1"),
    ("step 0", "ok"), ("finish", "0 0 0 0 1 1"), ("finish", "none"), ("rows a", "1 2 3"), ("catalog", "rest b"),
    ("undo", "ok"), ("undo", "ok"), ("rows a", "1 2"), ("redo", "ok"), ("rows a", "1 2 3"), ("events", "none"),
    ("start bare a ..10; rest b | b: 25 12 30", "ok"), ("begin hang c 20..40", "0"),
    ("step 0", "outside 25, outside 30"), ("begin direct a 25", "1"), ("step 1", "ok"), ("step 1", "twice 25"),
    ("events", "outside 25, outside 30, twice 25"), ("begin direct b -7", "2"), ("finish", "2 2"),
    ("events", "outside 25, outside 30, twice 25, outside -7"), ("rows b", "-7 12 25 30"),
    ("start bare empty", "ok"), ("catalog", "empty"), ("rows b", "none"),
]


def filled():
    """A desk with two protocols and an open store in which two sessions have begun."""
    desk = Desk()
    desk.put("plain", plain_protocol())
    desk.put("bare", rules(*BARE))
    desk.start("plain", read_catalog("a ..10; rest b"), {"a": [1, 2], "b": [12]})
    desk.begin(("put", 3))
    desk.begin(("take", "a"))
    desk.undo()
    return desk


class TestRun(Case):

    def test_the_example(self):
        desk = Desk()
        desk.put("plain", plain_protocol())
        desk.start("plain", read_catalog("a ..10; rest b"))
        self.assertEqual(desk.run_all(["begin put 3", "begin take a", "finish", "events", "rows a"]), [
            "0", "1", "0 0 0 0 0 1 1", "none", "3"])

    def test_each_command(self):
        desk = Desk()
        for line, answer in COMMANDS:
            self.assertEqual(desk.run(line), answer, line)
        self.assertEqual(Desk().run_all([line for line, _ in COMMANDS]), [answer for _, answer in COMMANDS])

    def test_as_the_methods(self):
        desk, other = filled(), filled()
        desk.run(line="put new read write: read!write | take: lock table write, close")
        other.put("new", read_protocol("read write: read!write\ntake: lock table write, close"))
        self.assertEqual(all_seen(desk), all_seen(other))
        desk.run("start new x 3..; y ..-3 | z: 5 -5 | y: -30 -4 | x: 3")
        other.start("new", read_catalog("x 3..; y ..-3"), {"x": [3], "y": [-30, -4], "z": [5, -5]})
        self.assertEqual(desk.store().versions("z"), other.store().versions("z"))
        for line, call in (
                ("begin take x", lambda: other.begin(("take", "x"))), ("step 0", lambda: other.step(0)),
                ("begin take y", lambda: other.begin(("take", "y"))), ("finish", other.finish), ("undo", other.undo),
                ("undo", other.undo), ("redo", other.redo), ("drop new", lambda: other.drop("new"))):
            desk.run(line)
            call()
            self.assertEqual(all_seen(desk), all_seen(other))

    def test_sessions_of_each_kind(self):
        desk = Desk()
        desk.put("bare", rules(*BARE))
        desk.start("bare", read_catalog("a 0..10; b 10..20; rest c"))
        for number, (text, asked) in enumerate((
                ("put -3", ("put", -3)), ("strike 0", ("strike", 0)), ("read 12", ("read", 12)),
                ("direct a 3", ("direct", "a", 3)), ("hang d 20..", ("hang", "d", (20, None))),
                ("take a", ("take", "a")), ("split a 5 d e", ("split", "a", 5, "d", "e")),
                ("join a b d", ("join", "a", "b", "d")))):
            self.assertEqual(desk.run(f"begin {text}"), str(number))
            self.assertEqual(desk.store().asked(number), asked)

    def test_right_and_wrong(self):
        desk = filled()
        before = all_seen(desk)
        self.assertEqual(desk.run("right plain"), "right")
        word, _, text = desk.run("right bare").partition(" ")
        start, weaving = wrong(rules(*BARE))
        self.assertEqual([word, read_weaving(text)], ["wrong", weaving])
        self.assertIs(is_small(start, weaving), True)
        self.assertEqual(all_seen(desk), before)
        desk.put("some", rules("put: look, claim, end", "take: close"))
        self.assertEqual(desk.run("right some"), "wrong begin put 0\nbegin take a\nstep 0\nstep 0\nstep 1\nstep 0")

    def test_a_protocol_without_programs(self):
        desk = Desk()
        self.assertEqual(desk.run("put a read write: read!write"), "ok")
        self.assertEqual(desk.entry("a"), read_protocol("read write: read!write"))
        self.assertEqual([desk.run("show a"), desk.run("right a")], ["read write: read!write", "right"])


# Strings that are no commands, for whatever desk.
NO_COMMANDS = [
    "", " ", "\n", "undo ", " undo", "undo\n", "\nundo", "undo x", "undo undo", "redo ", "redo 1", "finish ",
    "finish 0", "names ", "names x", "catalog ", "catalog a", "events ", "events 0", "Undo", "UNDO", "und", "undoo",
    "look", "run", "run_all", "store", "trial", "entry plain", "len", "put", "put ", "put plain", "put plain ",
    "put  x", "put x  y", "put x read ", "put  x read", "put x read  write", "put x read | ", "put x read |",
    "put x | read", "put x read |  take: close", "put x read |take: close", "put x read| take: close",
    "put x read | take: close |", "put x read | take:close", "put x read\ntake: close",
    "put x read | take: close | put: look, put, end", "put x read | take: open", "put x read | take: close | ",
    "put x read | | take: close", "put x READ", "put x read | take: close, end", "put x read: read!write",
    "put x read | take: lock table write, close", "drop", "drop ", "drop a b", "drop  a", " drop a", "drop a ",
    "drop a\n", "show", "show ", "show a b", "show  plain", "right", "right ", "right plain ", "right plain bare",
    "right  plain", "right plain\n", "start", "start ", "start plain", "start plain ", "start plain  empty",
    "start  plain empty", "start plain a", "start plain a ..10;rest b", "start plain rest b; a ..10",
    "start plain a ..10; rest b ", "start plain empty |", "start plain empty | ", "start plain | a: 1",
    "start plain empty | a", "start plain empty | a:", "start plain empty | a: ", "start plain empty | a:1",
    "start plain empty | a : 1", "start plain empty | a: 1 ", "start plain empty | a:  1",
    "start plain empty | a: 1  2", "start plain empty | a: 1 1", "start plain empty | a: 1 | a: 2",
    "start plain empty|a: 1", "start plain empty |a: 1", "start plain empty| a: 1", "start plain empty |  a: 1",
    "start plain empty | a: 01", "start plain empty | a: -0", "start plain empty | a: +1", "start plain empty | a: x",
    "start plain empty | A: 1", "start plain empty | table: 1", "start plain empty | a: 1 |",
    "start plain empty | a: 1 | | b: 1", "start plain empty | : 1", "start plain empty | a: 1; b: 2",
    "start plain empty | a: 1, 2", "start plain empty\na: 1", "start plain empty | abcdefghi: 1",
    "start plain empty | a: " + "1" * 31, "start plain empty | a: 1 2 1", "begin", "begin ", "begin put",
    "begin put ", "begin put  3", "begin  put 3", "begin put 3 ", "begin put 03", "begin put -0", "begin put +3",
    "begin put 3 4", "begin put a", "begin look 3", "begin 3", "begin put 3\n", "begin hang c 5..5", "begin hang c 5",
    "begin take table", "begin split a 5 b b", "begin direct 3 a", "begin begin put 3", "begin hang c 05..9",
    "begin put " + "9" * 31, "step", "step ", "step x", "step 00", "step -0", "step +0", "step 0 0", "step  0",
    "step 0 ", "step 0\n", "step 0.", "step 1e1", "step " + "1" * 31, "rows", "rows ", "rows a b", "rows  a",
    "rows a ", "rows A", "rows table", "rows abcdefghi", "rows 1", "rows a1", "rows a,b", "put|x read", "begin|put 3",
    "show plain | bare", "names | names", "undo | redo",
]


class TestWrongCommands(Case):

    def test_no_commands(self):
        desk, bare = filled(), Desk()
        before = all_seen(desk)
        for line in NO_COMMANDS:
            self.assert_error("InvalidCommand", line, desk.run, line)
            self.assert_error("InvalidCommand", line, bare.run, line)
        self.assertEqual(all_seen(desk), before)

    def test_values_that_are_no_strings(self):
        desk = filled()
        before = all_seen(desk)
        for value in every_value():
            self.assert_error("InvalidCommand", value, desk.run, value)
        for value in (["undo"], ("undo",), b"undo", {"undo": 1}):
            self.assert_error("InvalidCommand", value, desk.run, value)
        self.assertEqual(all_seen(desk), before)

    def test_a_character_more_or_less(self):
        # Whatever is carried out is a command as it is written: with the words of what it has done.
        for line in ("step 0", "rows a", "start bare a ..9; rest b | a: 1 2 | c: 7", "begin split a 5 d e", "undo",
        "names",
                "put x read: read!read | take: lock table read, close", "drop plain", "finish", "begin hang c -5..7"):
            for at in range(len(line) + 1):
                for text in [line[:at] + line[at + 1:], *[line[:at] + sign + line[at:] for sign in " \n|:-0a;"]]:
                    desk = filled()
                    before = all_seen(desk)
                    try:
                        desk.run(text)
                    except PartsError as error:
                        self.assertEqual(all_seen(desk), before)
                        if isinstance(error, errors.InvalidCommand):
                            self.assertEqual(error.value, text)
                    else:
                        self.assertEqual(text, " ".join(text.split()))

    def test_exceptions_of_the_methods(self):
        desk = filled()
        before = all_seen(desk)
        for line, name, told in (
                ("put A x", "InvalidName", "A"), ("put table x", "InvalidName", "table"), ("put 1 x", "InvalidName",
                "1"),
                ("put abcdefghi x", "InvalidName", "abcdefghi"), ("put a|b x", "InvalidName", "a|b"),
                ("put plain x", "NameTaken", "plain"), ("drop x", "UnknownEntry", "x"), ("drop A", "UnknownEntry", "A"),
                ("drop |", "UnknownEntry", "|"), ("show x", "UnknownEntry", "x"), ("right x", "UnknownEntry", "x"),
                ("right 7", "UnknownEntry", "7"), ("start x empty", "UnknownEntry", "x"),
                ("start X empty | a: 1", "UnknownEntry", "X"), ("step -1", "InvalidNumber", -1),
                ("step 1", "InvalidNumber", 1), ("step " + "9" * 30, "InvalidNumber", 10 ** 30 - 1)):
            self.assert_error(name, told, desk.run, line)
        for line, rows in (("start plain a ..9 | a: 9", {"a": [9]}), ("start plain rest b | c: 1 | b: 2", None)):
            if rows:
                with self.assertRaises(errors.InvalidRows) as caught:
                    desk.run(line)
                self.assertEqual(caught.exception.value, rows)
            else:
                self.assertEqual([desk.run(line), desk.run("undo"), desk.redos], ["ok", "ok", 1])
        desk.start("bare", read_catalog("a ..9"))
        desk.put("few", rules("put: look, put, end"))
        desk.start("few", read_catalog("a ..9"))
        self.assert_error("NoProgram", "take", desk.run, "begin take a")
        desk.run_all(["begin put 3", "finish"])
        self.assert_error("Ended", 0, desk.run, "step 0")
        desk.run_all(["start plain a ..9", "begin take a", "begin take a", "step 0"])
        self.assert_error("Waiting", 1, desk.run, "step 1")
        self.assertNotEqual(all_seen(desk), before)

    def test_a_refused_command_changes_nothing(self):
        desk = filled()
        before = all_seen(desk)
        for line in ("put A x", "put plain x", "drop x", "start x empty", "start plain a ..9 | a: 9", "step 1",
        "step -1"):
            with self.assertRaises(PartsError):
                desk.run(line)
            self.assertEqual(all_seen(desk), before)

    def test_no_store_and_nothing_to_undo(self):
        desk = Desk()
        for line in ("begin put 3", "step 0", "step -1", "finish", "catalog", "rows a", "events"):
            with self.assertRaises(errors.NoStore):
                desk.run(line)
        with self.assertRaises(errors.NothingToUndo):
            desk.run("undo")
        with self.assertRaises(errors.NothingToRedo):
            desk.run("redo")
        for number, name in enumerate("abcdefghijkl"):
            self.assertEqual([desk.run(f"put {name} x"), desk.undos], ["ok", number + 1])
        self.assert_error("TooMany", 12, desk.run, "put m x")


class TestRunAll(Case):

    def test_answers(self):
        desk = filled()
        before = all_seen(desk)
        self.assertEqual(desk.run_all(lines=[]), [])
        self.assertEqual(desk.run_all(["names", "rows a", "rows c"]), ["bare plain", "1 2", "none"])
        self.assertEqual(all_seen(desk), before)
        self.assertEqual(desk.run_all(["redo", "undo", "undo", "undo"]), ["ok"] * 4)
        self.assertEqual([desk.undos, desk.redos], [2, 3])

    def test_no_lists(self):
        desk = filled()
        before = all_seen(desk)
        for value in [*every_value(), ("undo",), "undo ", {"undo": 1}]:
            if not isinstance(value, list):
                self.assert_error("InvalidCommand", value, desk.run_all, value)
            self.assert_error("InvalidCommand", value, desk.run_all, ["undo", value, "undo"])
        self.assertEqual(all_seen(desk), before)

    def test_one_that_is_refused_in_the_middle(self):
        for line, name in (
                ("x", "InvalidCommand"), ("step 7", "InvalidNumber"), ("drop x", "UnknownEntry"), ("put plain x",
                "NameTaken"),
                ("begin take", "InvalidCommand"), ("put A x", "InvalidName"), (None, "InvalidCommand")):
            desk = filled()
            before = all_seen(desk)
            lines = ["begin put 5", "finish", "put new x", "undo", "drop bare", "start plain empty", line, "undo"]
            with self.assertRaises(getattr(errors, name)):
                desk.run_all(lines)
            self.assertEqual(all_seen(desk), before)
            self.assertEqual(lines[1], "finish")
            # What was taken back before can still be made again.
            self.assertEqual(desk.run_all(["redo", "finish", "rows a"]), ["ok", "0 0 0 0 0 1 1", "1 2 3"])

    def test_the_first_one_that_fails(self):
        desk = filled()
        self.assert_error("InvalidNumber", 9, desk.run_all, ["undo", "step 9", "x", "drop x"])
        with self.assertRaises(errors.NothingToRedo):
            desk.run_all(["redo", "redo", "x"])
        self.assertEqual([desk.undos, desk.redos], [4, 1])

    def test_within_a_trial(self):
        desk = filled()
        before = all_seen(desk)
        self.assertEqual(desk.trial(lambda here: here.run_all(["redo", "finish", "rows a"]))[2], "1 2 3")
        with self.assertRaises(errors.InvalidNumber):
            desk.trial(lambda here: here.run_all(["redo", "step 5"]))
        self.assertEqual(all_seen(desk), before)

    def test_rows_of_commands_at_random(self):
        rng = random.Random(155)
        lines = [
            "undo", "redo", "begin put 3", "begin direct b 3", "begin take a", "step 0", "step 1", "finish",
            "put x read",
            "drop x", "start bare a ..10; rest b", "names", "rows a", "step 9", "x",
        ]
        failed = 0
        for _ in range(120):
            desk, other = filled(), filled()
            chosen = rng.choices(lines, k=rng.randrange(1, 8))
            before = all_seen(desk)
            answers, error = [], None
            for line in chosen:
                try:
                    answers.append(other.run(line))
                except PartsError as raised:
                    error = raised
                    break
            if error is None:
                self.assertEqual(desk.run_all(chosen), answers)
                self.assertEqual(all_seen(desk), all_seen(other))
            else:
                failed += 1
                with self.assertRaises(type(error)):
                    desk.run_all(chosen)
                self.assertEqual(all_seen(desk), before)
        self.assertTrue(20 < failed < 110)

    def test_an_empty_protocol_of_many_lines(self):
        text = str(Rulebook(standard(), {}))
        desk = Desk()
        self.assertEqual(desk.run_all([f"put a {text}", "show a"]), ["ok", text])
        for protocol in (plain_protocol(), rules(*BARE)):
            text = str(protocol)
            self.assertEqual(desk.run_all(["drop a", f"put a {text}".replace("\n", " | "), "show a"])[2], text)

    def test_events_as_they_are_told_by_weavings(self):
        desk = Desk()
        desk.put("bare", rules(*BARE))
        desk.start("bare", read_catalog("a ..10; rest b"), {"a": [3]})
        answers = desk.run_all(["begin put 3", "begin direct b 3", "step 1", "step 1", "finish", "events"])
        told = events(filled_start(), [("put", 3), ("direct", "b", 3), 1, 1, 0, 0, 0])
        self.assertEqual(answers[3], ", ".join(f"{kind} {key}" for _, kind, key, _ in told[:2]))
        self.assertEqual(answers[5], ", ".join(f"{kind} {key}" for _, kind, key, _ in told))


def filled_start():
    """The store that the last test opens."""
    desk = Desk()
    desk.put("bare", rules(*BARE))
    desk.start("bare", read_catalog("a ..10; rest b"), {"a": [3]})
    return desk.store()


if __name__ == "__main__":
    unittest.main()
