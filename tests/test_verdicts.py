"""Tests of [121] to [125]: right and wrong protocols, papers, and the kinds that make a protocol wrong."""

import itertools
import random
import unittest

from hungparts import errors, verdicts
from hungparts.catalogs import Catalog
from hungparts.events import events
from hungparts.fewer import is_small
from hungparts.protocols import Rulebook, places, plain_protocol, read_protocol, with_mode
from hungparts.scenes import closed, is_closed, shortest
from hungparts.scening import scenes
from hungparts.strengths import Strengths, standard
from hungparts.verdicts import is_paper, is_right, least_wrong, only, paper, wrong
from tests.helper import BARE, KINDS, Case, every_value, rules

NOTHING = Rulebook(standard(), {})
PUT_TAKE = rules("put: look, claim, end", "take: close")
# For each kind a program that is unsafe, alone or beside other kinds of the plain protocol.
UNSAFE = {
    "put": "put: look, lock table write, claim, end", "strike": "strike: look, lock table write, strike, end",
    "read": "read: look, lock table read, view, read, end", "direct": "direct: lock part write, claim, end",
    "hang": "hang: lock table alone, lock new alone, lock rest alone, scan new, close", "take": "take: close",
    "split": "split: lock old alone, lock new alone, move, close",
    "join": "join: lock table alone, lock new alone, move, close",
}


def exchanged(line):
    """The plain protocol with another program for one kind."""
    program = [tuple(step.split(" ")) for step in line.partition(": ")[2].split(", ")]
    return plain_protocol().with_program(line.partition(":")[0], program)


def every_pair():
    """The plain protocol with the programs of one or two kinds alone."""
    for many in (1, 2):
        for kinds in itertools.combinations(KINDS, many):
            yield only(plain_protocol(), list(kinds))


class TestIsRight(Case):

    def test_the_examples(self):
        protocol = Rulebook(standard(), {"put": [("look",), ("claim",), ("end",)], "take": [("close",)]})
        self.assertEqual([is_right(protocol), least_wrong(protocol), is_right(plain_protocol())], [
            False, [["put", "take"]], True])

    def test_the_plain_protocol_by_one_and_two_kinds(self):
        self.assertIs(is_right(protocol=plain_protocol()), True)
        for protocol in every_pair():
            self.assertIs(is_right(protocol), True, str(protocol))

    def test_a_protocol_without_programs(self):
        self.assertIs(is_right(NOTHING), True)
        self.assertIs(wrong(NOTHING), None)
        self.assertEqual(paper(NOTHING), [])
        self.assertIs(is_paper(NOTHING, []), True)
        self.assertEqual(least_wrong(NOTHING), [])

    def test_the_plain_protocol_without_one_step(self):
        # What of it is needed: each step that can be left out.
        found = []
        for kind in KINDS:
            for index in range(len(plain_protocol().program(kind))):
                try:
                    protocol = plain_protocol().without_step(kind, index)
                except errors.InvalidProgram:
                    continue
                self.assertIs(is_right(protocol), False, (kind, index))
                found.append((kind, index))
        self.assertEqual(found, [
            ("put", 1), ("put", 2), ("strike", 1), ("strike", 2), ("read", 1), ("read", 2), ("direct", 0), ("direct",
            1),
            ("hang", 0), ("hang", 1), ("hang", 2), ("hang", 3), ("hang", 4), ("take", 0), ("split", 0), ("split", 1),
            ("split", 2), ("join", 0), ("join", 1), ("join", 2)])

    def test_an_unsafe_program_for_each_kind(self):
        for kind in KINDS:
            self.assertIs(is_right(exchanged(UNSAFE[kind])), False, kind)

    def test_with_waits_instead_of_locks(self):
        waits = [
            "put: look, lock part write, again, claim, end", "strike: look, lock table read, again, strike, end",
            "read: look, lock table read, view, read, end",
        ]
        self.assertIs(is_right(rules(*waits, "take: lock table alone, lock old alone, close")), False)
        again = [*waits[:2], "read: look, lock table read, again, view, read, end"]
        self.assertIs(is_right(rules(*again, "take: lock table alone, lock old alone, close")), True)
        self.assertIs(is_right(rules(*again, "take: lock table alone, close")), False)
        # A wait behind a switch does not help who has looked at the old catalog.
        self.assertIs(is_right(rules("put: look, claim, end", "take: switch, wait, end")), False)
        self.assertIs(is_right(rules("direct: border, claim, end", "take: switch, wait, end")), True)

    def test_two_changes_in_turn(self):
        # A row that is left behind by one change comes in with another one.
        self.assertIs(is_right(rules("hang: scan rest, close", "take: close")), False)
        self.assertIs(is_right(rules("hang: scan new, scan rest, close", "take: close")), True)

    def test_no_protocols(self):
        calls = [(is_right, []), (wrong, []), (paper, []), (is_paper, [None]), (only, [None]), (least_wrong, [])]
        for call, more in calls:
            for value in every_value():
                if not isinstance(value, Rulebook):
                    self.assert_error("InvalidProtocol", value, call, value, *more)

    def test_what_stands_in_the_file(self):
        for name in ("is_right", "wrong", "paper", "is_paper", "only", "least_wrong"):
            self.assertEqual(getattr(verdicts, name).__module__, "hungparts.verdicts")


def renamed(protocol, names):
    """A protocol whose modes have other names."""
    strengths = protocol.strengths
    new = dict(zip(strengths.modes(), names))
    clashes = [(new[one], new[other]) for one, other in strengths.clashes()]
    programs = {
        kind: [(*step[:2], new[step[2]]) if len(step) == 3 else step for step in protocol.program(kind)]
        for kind in protocol.kinds()}
    return Rulebook(Strengths([new[mode] for mode in strengths.modes()], clashes), programs)


def some_protocols(rng, many):
    """Protocols with several kinds, of which some steps are left out and some modes are others."""
    for _ in range(many):
        kinds = rng.sample(KINDS, rng.randrange(1, 5))
        protocol = only(plain_protocol(), [kind for kind in KINDS if kind in kinds])
        for _ in range(rng.randrange(4)):
            kind = rng.choice(protocol.kinds())
            try:
                protocol = protocol.without_step(kind, rng.randrange(len(protocol.program(kind))))
            except errors.InvalidProgram:
                place = rng.choice(places(protocol) or [None])
                if place:
                    protocol = with_mode(protocol, place, rng.choice(protocol.strengths.modes()))
        yield protocol


class TestOtherModes(unittest.TestCase):

    def test_modes_with_other_names(self):
        rng = random.Random(125)
        told = []
        for protocol in some_protocols(rng, 40):
            other = renamed(protocol, rng.sample(["alone", "read", "write", "share", "x", "zz"], 4))
            told.append(is_right(protocol))
            self.assertIs(is_right(other), told[-1])
            self.assertEqual(least_wrong(other), least_wrong(protocol))
        self.assertEqual(set(told), {True, False})

    def test_a_lock_that_clashes_with_none(self):
        strengths = Strengths(["free", "read", "write"], [("read", "write"), ("write", "write")])
        lines = ["put: look, lock part write, lock table free, again, claim, end", "take: lock old write, close",
            "direct: lock part free, lock part read, border, claim, end"]
        for more in ("split: lock old write, lock new free, move, close",
        "split: lock old write, lock new write, move, close"):
            ordered = sorted([*lines, more], key=lambda line: KINDS.index(line.partition(":")[0]))
            protocol = read_protocol("\n".join([str(strengths), *ordered]))
            told = is_right(protocol)
            for kind in protocol.kinds():
                for index in reversed(range(len(protocol.program(kind)))):
                    if protocol.program(kind)[index][2:] == ("free",):
                        protocol = protocol.without_step(kind, index)
                        self.assertIs(is_right(protocol), told)
            self.assertNotIn("free", str(protocol).partition("\n")[2])
            self.assertIs(told, "new write" in more)


class TestWrong(Case):

    def assert_wrong(self, protocol):
        """What is told of a wrong protocol is small, and goes wrong at its last turn alone."""
        start, weaving = wrong(protocol)
        self.assertIs(is_small(start, weaving), True)
        self.assertEqual(start.protocol, protocol)
        found = events(start, weaving)
        self.assertEqual({index for index, *_ in found}, {len(weaving) - 1})

    def test_wrong_protocols(self):
        self.assert_wrong(PUT_TAKE)
        self.assert_wrong(rules(*BARE))
        for kind in KINDS:
            self.assert_wrong(exchanged(UNSAFE[kind]))
        for line in BARE[:1] + BARE[3:5]:
            self.assert_wrong(rules(line))

    def test_exactly_the_wrong_ones(self):
        rng = random.Random(122)
        for protocol in some_protocols(rng, 60):
            if is_right(protocol):
                self.assertIsNone(wrong(protocol=protocol))
                self.assertIs(is_paper(protocol, paper(protocol)), True)
            else:
                self.assert_wrong(protocol)
                with self.assertRaises(errors.NotRight):
                    paper(protocol)
            self.assertIs(is_right(protocol), all(shortest(protocol, scene) is None for scene in scenes(protocol)))

    def test_what_was_told(self):
        start, weaving = wrong(PUT_TAKE)
        start.begin(("put", 5))
        weaving.clear()
        self.assert_wrong(PUT_TAKE)


class TestPapers(Case):

    def setUp(self):
        self.protocol = only(plain_protocol(), ["put", "direct", "take", "split"])
        self.paper = paper(self.protocol)

    def assert_paper(self, value, told):
        """A value is a paper of the protocol, or is none."""
        self.assertIs(is_paper(self.protocol, value), told)
        self.assertIs(is_paper(protocol=self.protocol, value=value), told)

    def test_papers_that_are_told(self):
        self.assert_paper(self.paper, True)
        self.assertEqual([scene for scene, _ in self.paper], scenes(self.protocol))
        for scene, table in paper(protocol=self.protocol):
            self.assertIs(is_closed(self.protocol, scene, table), True)
        for protocol in [plain_protocol(), *every_pair()]:
            self.assertIs(is_paper(protocol, paper(protocol)), True)

    def test_an_entry_left_out(self):
        for at in range(len(self.paper)):
            self.assert_paper(self.paper[:at] + self.paper[at + 1:], False)
        self.assert_paper([], False)

    def test_in_another_order_and_doubled(self):
        self.assert_paper(self.paper[::-1], True)
        self.assert_paper(self.paper + self.paper, True)
        self.assert_paper([*self.paper, self.paper[0]], True)
        # Scenes that are not needed, and other closed tables.
        scene = (Catalog({"x": (0, 9)}, rest="y"), {"x": [7]}, [("put", 7), ("take", "x")])
        self.assert_paper([(scene, closed(self.protocol, scene)), *self.paper], True)
        self.assert_paper([(scene, closed(self.protocol, scene)[1:]), *self.paper], False)
        self.assert_paper([(scene, [*table, []][::-1]) for scene, table in self.paper], True)

    def test_bent_tables(self):
        for at, (scene, table) in enumerate(self.paper):
            for other in (table[1:], table[:-1], [*table, [9]], tuple(table), None, [tuple(row) for row in table]):
                self.assert_paper([*self.paper[:at], (scene, other), *self.paper[at + 1:]], False)

    def test_tables_of_other_scenes(self):
        entries = list(self.paper)
        found = set()
        for (one, first), (other, second) in itertools.combinations(entries, 2):
            bent = [entry for entry in entries if entry[0] not in (one, other)] + [(one, second), (other, first)]
            told = is_closed(self.protocol, one, second) and is_closed(self.protocol, other, first)
            self.assert_paper(bent, told)
            found.add(told)
        self.assertIn(False, found)

    def test_bent_entries(self):
        scene, table = self.paper[0]
        for entry in ((scene,), (scene, table, table), [scene, table], (table, scene), scene, table, None, (None,
        table),
                ((*scene[:2], []), table), (list(scene), table), (scene, scene), ()):
            self.assert_paper([entry, *self.paper[1:]], False)
            self.assert_paper([entry, *self.paper], False)
        for value in [*every_value(), tuple(self.paper), dict(enumerate(self.paper))]:
            self.assert_paper(value, False)

    def test_values_of_every_kind_in_entries(self):
        self.protocol = only(plain_protocol(), ["direct", "take"])
        self.paper = paper(self.protocol)
        scene, _ = self.paper[0]
        for value in every_value():
            self.assert_paper([*self.paper, value], False)
            self.assert_paper([*self.paper, (value, [[]])], False)
            self.assert_paper([*self.paper, (scene, value)], False)

    def test_papers_of_other_protocols(self):
        self.assert_paper(paper(only(plain_protocol(), ["put", "direct", "take"])), False)
        # A scene of a kind without a program.
        self.assert_paper(paper(plain_protocol()), False)
        # The same scenes, but other tables.
        for kind, line in (("put", "put: look, lock table write, again, key, claim, end"), ("take", UNSAFE["take"])):
            other = exchanged(line)
            other = only(other, self.protocol.kinds())
            self.assertIs(is_paper(other, self.paper), False, kind)

    def test_not_right(self):
        for protocol in (PUT_TAKE, rules(*BARE)):
            with self.assertRaises(errors.NotRight):
                paper(protocol)
            self.assertIs(is_paper(protocol, self.paper), False)
        entries = [(scene, closed(plain_protocol(), scene)) for scene in scenes(PUT_TAKE)]
        self.assertIs(is_paper(PUT_TAKE, entries), False)

    def test_what_was_passed_and_told(self):
        copies = [(scene, [list(row) for row in table]) for scene, table in self.paper]
        is_paper(self.protocol, self.paper)
        self.assertEqual(self.paper, copies)
        self.paper[0][1].clear()
        self.paper.clear()
        self.assertEqual(paper(self.protocol), copies)


class TestOnly(Case):

    def test_kinds(self):
        plain = plain_protocol()
        for kinds in ([], ["put"], ["put", "take"], ["take", "put"], ["take", "put", "take"], KINDS, KINDS[::-1]):
            protocol = only(protocol=plain, kinds=kinds)
            self.assertEqual(protocol.kinds(), [kind for kind in KINDS if kind in kinds])
            self.assertEqual(protocol.strengths, plain.strengths)
            for kind in protocol.kinds():
                self.assertEqual(protocol.program(kind), plain.program(kind))

    def test_no_kinds(self):
        for value in every_value():
            if not isinstance(value, list):
                self.assert_error("NoProgram", value, only, PUT_TAKE, value)
            self.assert_error("NoProgram", value, only, PUT_TAKE, ["put", value, "strike"])
        self.assert_error("NoProgram", ("put",), only, PUT_TAKE, ("put",))
        self.assert_error("NoProgram", "strike", only, PUT_TAKE, ["put", "strike", "look", "take"])
        self.assert_error("NoProgram", "put", only, NOTHING, ["put"])


class TestLeastWrong(unittest.TestCase):

    def test_one_kind_that_is_wrong_alone(self):
        self.assertEqual(least_wrong(rules("put: look, put, end")), [["put"]])
        self.assertEqual(least_wrong(rules("put: look, put, end", "take: close")), [["put"]])
        self.assertEqual(least_wrong(rules("put: look, put, end", "strike: look, strike, end", "take: close")), [
            ["put"], ["strike", "take"]])

    def test_in_order(self):
        self.assertEqual(least_wrong(protocol=rules(*BARE)), [
            ["put"], ["direct"], ["hang"], ["strike", "take"], ["strike", "split"], ["strike", "join"],
            ["read", "take"], ["read", "split"], ["read", "join"]])
        self.assertEqual(least_wrong(exchanged(UNSAFE["take"])), [["put", "take"], ["strike", "take"], ["read",
            "take"]])
        self.assertEqual(least_wrong(plain_protocol()), [])

    def test_by_words(self):
        rng = random.Random(124)
        found = set()
        for protocol in some_protocols(rng, 25):
            told = []
            for many in range(len(protocol.kinds()) + 1):
                for kinds in itertools.combinations(protocol.kinds(), many):
                    less = [[kind for kind in kinds if kind != other] for other in kinds]
                    if not is_right(only(protocol, list(kinds))) and all(is_right(only(protocol, few)) for few in less):
                        told.append(list(kinds))
            self.assertEqual(least_wrong(protocol), told)
            found.update(len(kinds) for kinds in told)
        self.assertEqual(found, {1, 2})

    def test_lists_that_were_told(self):
        told = least_wrong(PUT_TAKE)
        told[0].clear()
        told.clear()
        self.assertEqual(least_wrong(PUT_TAKE), [["put", "take"]])


if __name__ == "__main__":
    unittest.main()
