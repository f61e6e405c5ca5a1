"""Tests of [114]: the scenes that decide about a protocol, and the texts of scenes."""

import itertools
import random
import unittest

from hungparts import scening as module
from hungparts.catalogs import Catalog, read_catalog
from hungparts.changes import fits, is_change
from hungparts.errors import InvalidProgram
from hungparts.events import events, first_wrong
from hungparts.protocols import Rulebook, plain_protocol, read_protocol
from hungparts.scenes import is_scene, opened, shortest
from hungparts.scening import read_scene, scene_text, scenes
from hungparts.store import Store
from hungparts.strengths import standard
from hungparts.weavings import ready
from tests.helper import BARE, KINDS, Case, every_value, rules
from tests.test_scenes import NO_SCENES

# Protocols that are careful in other ways than the plain one: with locks of the parts, and with waits.
PARTS = [
    "read write share alone: read!alone write!share write!alone share!alone alone!alone",
    "put: look, lock part write, again, claim, end",
    "strike: look, lock table read, lock part write, again, strike, end",
    "read: look, lock table read, again, lock part read, view, read, end",
    "direct: lock part write, border, claim, end",
    "hang: lock table alone, lock rest alone, lock new alone, scan new, scan rest, switch, end",
    "take: lock table alone, lock old alone, switch, wait, end",
    "split: lock table alone, lock old alone, lock new alone, move, switch, wait, end",
    "join: lock table alone, lock old alone, lock new alone, move, switch, wait, end",
]


def kinds_of(scene):
    """The kinds of the sessions of a scene."""
    return {asked[0] for asked in scene[2]}


def is_decided(protocol):
    """Whether some of the scenes that are told goes wrong."""
    return any(shortest(protocol, scene) is not None for scene in scenes(protocol))


class TestScenes(Case):

    def test_each_one_and_each_two_of_the_kinds(self):
        bare = rules(*BARE)
        for many in (0, 1, 2, 3, 8):
            for kinds in itertools.combinations(KINDS, many):
                protocol = Rulebook(standard(), {kind: bare.program(kind) for kind in kinds})
                told = scenes(protocol=protocol)
                self.assertIs(type(told), list)
                for at, scene in enumerate(told):
                    self.assertIs(is_scene(scene), True)
                    self.assertLessEqual(kinds_of(scene), set(kinds))
                    self.assertNotIn(scene, told[:at])
                self.assertEqual(told, [scene for scene in scenes(bare) if kinds_of(scene) <= set(kinds)])

    def test_the_steps_do_not_matter(self):
        told = [scene_text(scene) for scene in scenes(rules(*BARE))]
        self.assertEqual([scene_text(scene) for scene in scenes(plain_protocol())], told)
        self.assertEqual([scene_text(scene) for scene in scenes(read_protocol("\n".join(PARTS)))], told)

    def test_lists_that_were_told_may_be_changed(self):
        told = scenes(rules(*BARE))
        texts = [scene_text(scene) for scene in told]
        for _, rows, sessions in told:
            rows["x"] = [7]
            sessions.clear()
        told.clear()
        self.assertEqual([scene_text(scene) for scene in scenes(rules(*BARE))], texts)

    def test_scenes_that_were_told_changed_by_a_little(self):
        for book, rows, sessions in scenes(rules(*BARE)):
            for scene in (
                    (book, rows, sessions[::-1]), (book, {**rows, "z": []}, sessions), (book, {}, sessions),
                    (book, {**rows, "z": [0]}, sessions), (book, rows, sessions[:1])):
                told = len([key for part in scene[1] for key in scene[1][part]]) <= 2
                self.assertIs(is_scene(scene), told)
                if told:
                    protocol = rules(*BARE)
                    self.assertEqual(shortest(protocol, scene), first_wrong(Store(protocol, *scene[:2]), scene[2]))

    def test_each_kind_of_event_is_in_a_scene(self):
        protocol = rules(*BARE)
        found = {}
        for scene in scenes(protocol):
            turns = shortest(protocol, scene)
            for _, event, _, number in events(opened(protocol, scene), turns or []):
                found.setdefault(event, set()).add(scene[2][number][0])
        self.assertLessEqual({"outside", "twice", "lost", "missed", "astray", "unseen"}, set(found))
        self.assertEqual(found["missed"], {"put"})

    def test_no_protocols(self):
        for value in every_value():
            if not isinstance(value, Rulebook):
                self.assert_error("InvalidProtocol", value, scenes, value)


def large_scenes(kinds, rng, many):
    """Some scenes of some kinds, with many catalogs, rows, and changes that fit or do not."""
    found = []
    while len(found) < many:
        spans = {name: rng.choice([(None, 1), (0, 1), (0, 2), (1, 2), (-1, 0), (2, None), (None, None)])
            for name in rng.sample("abc", rng.randrange(3))}
        try:
            book = Catalog(spans, rest=rng.choice([None, "r"]))
        except ValueError:
            continue
        rows = {}
        for part in rng.choices("abcrd", k=rng.randrange(3)):
            if part not in book or book.part_of(0) == part:
                rows[part] = [0]
        sessions = [random_session(rng, kinds) for _ in range(rng.choice([1, 2, 2, 2]))]
        changes = [asked for asked in sessions if is_change(asked)]
        if len(changes) < 2 and [asked for asked in changes if fits(book, asked)] == changes:
            found.append((book, rows, sessions))
    return found


def random_session(rng, kinds):
    """A session of one of some kinds, with the key 0."""
    kind, names = rng.choice(kinds), rng.sample("abcdr", 3)
    span = rng.choice([(0, 1), (0, 2), (1, 2), (None, None), (5, 9)])
    return {
        "put": ("put", 0), "strike": ("strike", 0), "read": ("read", 0), "direct": ("direct", names[0], 0),
        "hang": ("hang", names[0], span), "take": ("take", names[0]),
        "split": ("split", names[0], rng.choice([0, 1]), *names[1:]), "join": ("join", *names),
    }[kind]


class TestScenesDecide(unittest.TestCase):

    def weakened(self, protocol, rng):
        """A protocol with one or two kinds, of which steps are left out as long as it is right by its scenes."""
        chosen = rng.sample(KINDS[:4], rng.randrange(3)) + rng.sample(KINDS[4:], 1)
        kinds = [kind for kind in KINDS if kind in chosen]
        protocol = Rulebook(protocol.strengths, {kind: protocol.program(kind) for kind in kinds})
        steps = [(kind, index) for kind in kinds for index in range(len(protocol.program(kind)))]
        for kind, index in sorted(steps, key=lambda step: (-step[1], rng.random())):
            try:
                other = protocol.without_step(kind, index)
            except InvalidProgram:
                continue
            if not is_decided(other):
                protocol = other
        return protocol

    def test_protocols_that_need_all_their_steps(self):
        rng = random.Random(114)
        for _ in range(20):
            protocol = self.weakened(rng.choice([plain_protocol(), read_protocol("\n".join(PARTS))]), rng)
            for scene in large_scenes(protocol.kinds(), rng, 40):
                self.assertIsNone(shortest(protocol, scene), (str(protocol), str(scene[0]), scene[1:]))

    def test_longer_weavings(self):
        rng = random.Random(115)
        for _ in range(20):
            protocol = self.weakened(rng.choice([plain_protocol(), read_protocol("\n".join(PARTS))]), rng)
            for _ in range(15):
                book = read_catalog(rng.choice(["a 0..1; rest r", "a ..1; b 1..", "a 0..2", "empty", "rest r"]))
                store = Store(protocol, book, rng.choice([{}, {"d": [0]}, {"c": [0], "d": [5]}]))
                behind, weaving = store.copy(), []
                for _ in range(40):
                    able = ready(behind)
                    if able and (len(behind) > 5 or rng.random() < 0.7):
                        weaving.append(rng.choice(able))
                        behind.step(weaving[-1])
                    elif len(behind) <= 5:
                        weaving.append(random_session(rng, protocol.kinds()))
                        behind.begin(weaving[-1])
                self.assertEqual(events(store, weaving), [], (str(protocol), str(book), weaving))

    def assert_decided(self, text, told):
        """Some scene of a protocol goes wrong, or none does."""
        self.assertIs(is_decided(read_protocol("\n".join([str(standard()), *text.splitlines()]))), told, text)

    def test_protocols_that_are_wrong_in_a_single_way(self):
        # Each of these lacks one thing only, and so one of the scenes is needed for it.
        for text in (
                "put: look, put, end", "put: look, key, put, end", "direct: border, put, end", "direct: claim, end",
                "direct: border, key, put, end", "put: look, claim, end\ndirect: border, key, put, end",
                "put: look, lock table alone, key, put, end\ndirect: lock part alone, border, key, put, end",
                "direct: border, lock part read, claim, end\njoin: lock new alone, lock old alone, move, close",
                "hang: scan new, close", "hang: scan rest, close", "put: look, claim, end\ntake: close",
                "put: look, lock part write, claim, end\ntake: lock old alone, close",
                "put: look, lock part write, again, claim, end\nhang: lock new alone, scan new, scan rest, close",
                "put: look, again, lock part write, claim, end\nsplit: lock old alone, move, close",
                "put: look, lock part read, again, claim, end\njoin: lock old share, move, close",
                "strike: look, lock part read, again, strike, end\nhang: lock rest alone, scan new, scan rest, close",
                "strike: look, strike, end\ntake: close", "strike: look, again, strike, end\nsplit: move, close",
                "strike: look, lock part read, strike, end\njoin: lock old alone, move, close",
                "read: look, view, read, end\ntake: close", "read: view, look, read, end\ntake: close",
                "read: look, lock part read, view, read, end\ntake: close",
                "read: look, again, view, read, end\nhang: scan new, scan rest, close",
                "read: look, lock part read, view, read, end\nsplit: lock old alone, move, close",
                "read: look, lock part read, again, view, read, end\njoin: lock new alone, move, close",
                "direct: border, claim, end\nsplit: lock new alone, lock old alone, move, close",
                "direct: lock part read, border, claim, end\nsplit: lock old alone, move, close",
                "direct: lock part read, border, claim, end\nsplit: lock new alone, move, close",
                "direct: border, lock part read, claim, end\nsplit: lock new alone, lock old alone, move, close",
                "direct: lock part read, border, claim, end\njoin: lock old alone, move, close",
                "direct: lock part read, border, claim, end\njoin: lock new alone, move, close",
                "direct: lock part read, border, claim, end\njoin: lock new alone, move, lock old alone, close",
                "direct: lock part read, border, claim, end\nhang: lock new alone, scan new, scan rest, close",
                "direct: lock part read, border, claim, end\nhang: lock rest alone, scan new, scan rest, close"):
            self.assert_decided(text, True)

    def test_protocols_that_lack_nothing(self):
        for text in (
                "", "put: look, claim, end", "direct: border, claim, end", "hang: scan new, scan rest, close",
                "put: look, claim, end\ndirect: border, claim, end", "put: look, lock table alone, key, put, end",
                "direct: lock part alone, border, key, put, end",
                "strike: look, strike, end\nread: look, view, read, end",
                "take: close\nsplit: move, close\njoin: move, close",
                "put: look, lock part write, again, claim, end\ntake: lock old alone, close",
                "put: look, lock table read, again, claim, end\nhang: lock table alone, scan new, scan rest, close",
                "strike: look, lock table read, again, strike, end\nhang: lock table alone, scan new, scan rest, close",
                "read: look, lock part read, again, view, read, end\ntake: lock old alone, close",
                "direct: lock part read, border, claim, end\nsplit: lock new alone, lock old alone, move, close",
                "direct: lock part read, border, claim, end\njoin: lock new alone, lock old alone, move, close",
                "direct: lock part read, border, claim, end\ntake: close",
                "direct: lock part read, border, claim, end\n"
                "hang: lock rest alone, lock new alone, scan new, scan rest, close"):
            self.assert_decided(text, False)
        self.assertIs(is_decided(plain_protocol()), False)


SCENES = {
    "a ..10; rest c\na: 3\nd: 3\nbegin put 3\nbegin split a 5 d e": (
        Catalog({"a": (None, 10)}, rest="c"), {"a": [3], "d": [3]}, [("put", 3), ("split", "a", 5, "d", "e")]),
    "empty\nbegin hang n -5..": (Catalog(), {}, [("hang", "n", (-5, None))]),
    "rest rest\nrest: -7\nbegin direct rest -7": (Catalog(rest="rest"), {"rest": [-7]}, [("direct", "rest", -7)]),
    "a 0..9\nbegin: 5\nbegin take a": (Catalog({"a": (0, 9)}), {"begin": [5]}, [("take", "a")]),
    "a 0..9; b 9..20\nbegin join a b d\nbegin read -1": (
        Catalog({"a": (0, 9), "b": (9, 20)}), {}, [("join", "a", "b", "d"), ("read", -1)]),
    "rest c\nc: 0\nbegin strike 0\nbegin strike 0": (Catalog(rest="c"), {"c": [0]}, [("strike", 0)] * 2),
}


class TestTexts(Case):

    def test_texts_and_back(self):
        for text, scene in SCENES.items():
            self.assertEqual(scene_text(scene), text)
            self.assertEqual(scene_text(scene=scene), text)
            self.assertEqual(read_scene(text), scene)
            self.assertEqual(read_scene(text=text), scene)

    def test_scenes_that_are_told(self):
        for scene in scenes(rules(*BARE)):
            self.assertEqual(read_scene(scene_text(scene)), scene)

    def test_parts_without_rows_and_in_another_order(self):
        book = read_catalog("a ..10")
        scene = (book, {"e": [3], "b": [], "d": [3], "a": []}, [("take", "a")])
        self.assertEqual(scene_text(scene), "a ..10\nd: 3\ne: 3\nbegin take a")
        self.assertEqual(read_scene(scene_text(scene)), (book, {"d": [3], "e": [3]}, [("take", "a")]))

    def test_no_scenes(self):
        for value in [*every_value(), *NO_SCENES]:
            self.assert_error("InvalidScene", value, scene_text, value)

    def test_no_texts(self):
        for value in [*every_value(), *[scene for scene in SCENES.values()]]:
            self.assert_error("InvalidText", value, read_scene, value)

    def test_bent_texts(self):
        for text in (
                "", "\n", "empty", "empty\n", "empty\nbegin take a\n", "\nempty\nbegin take a", "empty\n\nbegin take a",
                "empty\nbegin put", "empty\nbegin", "empty\nbegin ", "empty\nput 3", "empty\nstep 0", "a\nbegin put 3",
                "empty\nbegin put 3\nstep 0", "empty\n begin put 3", "empty\nbegin  put 3", "empty\nbegin put 3 ",
                "empty\nbegin put 03", "empty\nbegin put -0", "empty\nbegin put +3", "empty\nbegin put 3.",
                "a ..10;rest c\nbegin take a", "rest c; a ..10\nbegin take a", "b 0..1; a 1..2\nbegin take a",
                # Rows.
                "empty\na:3\nbegin put 3", "empty\na: \nbegin put 3", "empty\na:\nbegin put 3",
                "empty\na: 03\nbegin put 3", "empty\na: 3 \nbegin put 3", "empty\na:  3\nbegin put 3",
                "empty\na : 3\nbegin put 3",
                "empty\na: 3 3\nbegin put 3", "empty\na: 3 4\nbegin put 3", "empty\na: 3\na: 3\nbegin put 3",
                "empty\nb: 3\na: 3\nbegin put 3", "empty\nA: 3\nbegin put 3", "empty\ntable: 3\nbegin put 3",
                "empty\n: 3\nbegin put 3", "empty\na: 4\nbegin put 3", "empty\na: 3\nb: 4\nbegin take a",
                "empty\na: 3\nb: 3\nc: 3\nbegin put 3", "empty\nbegin put 3\na: 3", "a 0..1\na: 3\nbegin put 3",
                "a: 3\nempty\nbegin put 3", "empty\na: x\nbegin put 3", "empty\na\nbegin put 3",
                # Sessions.
                "empty\nbegin put 3\nbegin put 4", "empty\nbegin put 3\nbegin put 3\nbegin put 3",
                "empty\nbegin take a\nbegin take b", "empty\nbegin hang a 5..5", "empty\nbegin split a 5 b b",
                "empty\nbegin look 3", "empty\nbegin direct table 3", "begin put 3", "empty\nbegin put 3\nempty"):
            self.assert_error("InvalidText", text, read_scene, text)

    def test_a_character_more_or_less(self):
        self.assert_exact(read_scene, scene_text, list(SCENES), " \n:-0a;.")

    def test_what_stands_in_the_file(self):
        for name in ("scenes", "scene_text", "read_scene"):
            self.assertEqual(getattr(module, name).__module__, "hungparts.scening")


if __name__ == "__main__":
    unittest.main()
