"""Tests of [131] to [134]: needless steps, slim protocols, and the weakest modes that suffice."""

import itertools
import random
import unittest

from hungparts import errors
from hungparts import weakest as module
from hungparts.events import events
from hungparts.fewer import is_small
from hungparts.protocols import Rulebook, places, plain_protocol, read_protocol, weaker_protocol, with_mode
from hungparts.strengths import Strengths, standard
from hungparts.verdicts import is_right, only
from hungparts.weakest import fitting_modes, needless, slim, too_weak, weakest
from tests.helper import BARE, KINDS, Case, every_value, rules

PUT_TAKE = only(plain_protocol(), ["put", "take"])
# Locks of parts and of the table beside each other, and other steps that are not all needed.
MORE = rules(
    "put: look, lock table write, again, lock part write, key, again, claim, end",
    "read: look, lock part read, lock table read, again, view, read, end",
    "direct: lock part write, border, key, claim, end",
    "hang: lock rest alone, lock table alone, lock new alone, lock rest share, scan new, scan rest, switch, wait, end",
    "take: lock table share, lock old alone, switch, lock table alone, wait, end",
)
WRONG = rules("put: look, claim, end", "take: close")


def variants(protocol, chosen):
    """Each tuple of modes for some places, and the protocol with these."""
    for modes in itertools.product(protocol.strengths.modes(), repeat=len(chosen)):
        other = protocol
        for place, mode in zip(chosen, modes):
            other = with_mode(other, place, mode)
        yield modes, other


def weakest_by_words(protocol, chosen):
    """What [133] tells of the weakest tuples of modes."""
    weaker = protocol.strengths.weaker
    right = [modes for modes, other in variants(protocol, chosen) if is_right(other)]
    return [modes for modes in right if not [
        other for other in right if all(map(weaker, other, modes)) and not all(map(weaker, modes, other))]]


def needless_by_words(protocol):
    """What [132] tells of needless steps."""
    found = []
    for kind in protocol.kinds():
        for index in range(len(protocol.program(kind))):
            try:
                other = protocol.without_step(kind, index)
            except errors.InvalidProgram:
                continue
            if is_right(other):
                found.append((kind, index))
    return found


class TestNeedless(Case):

    def test_the_example(self):
        self.assertEqual([needless(PUT_TAKE), weakest(PUT_TAKE, [("put", 1), ("take", 0)])], [
            [], [("read", "alone"), ("write", "share"), ("share", "write"), ("alone", "read")]])

    def test_each_step_that_can_be_left_out(self):
        self.assertEqual(needless(plain_protocol()), [])
        self.assertEqual(needless(protocol=only(plain_protocol(), ["put"])), [("put", 1), ("put", 2)])
        self.assertEqual(needless(rules("hang: scan new, scan rest, close")), [])
        self.assertEqual(needless(rules("hang: lock table alone, scan new, scan rest, close")), [("hang", 0)])
        self.assertEqual(needless(rules("direct: border, key, claim, end", "put: look, key, claim, end")), [
            ("put", 1), ("direct", 1)])
        self.assertEqual(needless(rules("take: switch, lock table alone, wait, end")), [("take", 1), ("take", 2)])
        self.assertEqual(needless(rules("strike: look, again, again, strike, end")), [("strike", 1), ("strike", 2)])
        self.assertEqual(needless(Rulebook(standard(), {})), [])

    def test_one_of_two_steps(self):
        # Each of the two can be left out, but not both.
        protocol = rules("put: look, lock table write, lock part write, again, claim, end",
            "take: lock table alone, lock old alone, close")
        self.assertEqual(needless(protocol), [("put", 1), ("put", 2), ("take", 0), ("take", 1)])
        twice = rules("put: look, lock table write, again, again, claim, end", "take: lock table alone, close")
        self.assertEqual(needless(twice), [("put", 2), ("put", 3)])
        self.assertEqual(slim(twice), PUT_TAKE)

    def test_by_words(self):
        for protocol in (MORE, *[only(MORE, list(kinds)) for kinds in itertools.combinations(MORE.kinds(), 2)]):
            self.assertEqual(needless(protocol), needless_by_words(protocol))
        self.assertIn(("put", 4), needless(MORE))
        self.assertNotIn(("direct", 1), needless(MORE))

    def test_lists_that_were_told(self):
        needless(MORE).clear()
        self.assertGreater(len(needless(MORE)), 3)


class TestSlim(unittest.TestCase):

    def test_from_the_last_step_to_the_first(self):
        protocol = rules("put: look, lock table write, lock part write, again, claim, end",
            "take: lock table alone, lock old alone, close")
        self.assertEqual(slim(protocol), PUT_TAKE)
        protocol = rules("put: look, lock part write, lock table write, again, claim, end",
            "take: lock old alone, lock table alone, close")
        self.assertEqual(slim(protocol), rules(
            "put: look, lock part write, again, claim, end", "take: lock old alone, close"))
        self.assertEqual(slim(protocol=plain_protocol()), plain_protocol())
        self.assertEqual(slim(only(plain_protocol(), ["put"])), rules("put: look, claim, end"))
        self.assertEqual(slim(Rulebook(standard(), {})), Rulebook(standard(), {}))

    def test_kinds_in_their_order(self):
        # The take comes behind the strike, so its lock of the table goes first, and then the other one of the strike.
        protocol = rules("strike: look, lock table write, lock part write, again, strike, end",
            "take: lock table alone, lock old alone, close")
        self.assertEqual(slim(protocol), rules(
            "strike: look, lock table write, again, strike, end", "take: lock table alone, close"))

    def test_by_words(self):
        for protocol in (MORE, *[only(MORE, list(kinds)) for kinds in itertools.combinations(MORE.kinds(), 2)]):
            left = protocol
            steps = [(kind, index) for kind in protocol.kinds() for index in range(len(protocol.program(kind)))]
            for kind, index in reversed(steps):
                try:
                    other = left.without_step(kind, index)
                except errors.InvalidProgram:
                    continue
                left = other if is_right(other) else left
            self.assertEqual(slim(protocol), left)
            self.assertEqual(needless(left), [])
            self.assertIs(is_right(left), True)


class TestFittingModes(Case):

    def test_modes_in_their_order(self):
        self.assertEqual(fitting_modes(PUT_TAKE, ("put", 1)), ["read", "write", "share", "alone"])
        self.assertEqual(fitting_modes(protocol=PUT_TAKE, place=("take", 0)), ["share", "alone"])
        self.assertEqual(fitting_modes(plain_protocol(), ("take", 0)), ["alone"])
        self.assertEqual(fitting_modes(plain_protocol(), ("hang", 1)), ["share", "alone"])
        self.assertEqual(fitting_modes(only(plain_protocol(), ["hang"]), ("hang", 1)), standard().modes())

    def test_by_words(self):
        for protocol in (plain_protocol(), MORE):
            for place in places(protocol):
                told = [modes[0] for modes, other in variants(protocol, [place]) if is_right(other)]
                self.assertEqual(fitting_modes(protocol, place), told)

    def test_stronger_modes_fit(self):
        # What [131] relies on.
        weaker = standard().weaker
        for protocol in (plain_protocol(), MORE, PUT_TAKE):
            for place in places(protocol):
                told = fitting_modes(protocol, place)
                self.assertIn(protocol.program(place[0])[place[1]][2], told)
                self.assertEqual(told, [mode for mode in standard().modes() if any(weaker(low, mode) for low in told)])


class TestWeakest(Case):

    def test_one_two_and_three_places(self):
        self.assertEqual(weakest(PUT_TAKE, [("put", 1)]), [("read",)])
        self.assertEqual(weakest(protocol=PUT_TAKE, chosen=[("take", 0)]), [("share",)])
        self.assertEqual(weakest(PUT_TAKE, [("put", 1), ("take", 0)]), [
            ("read", "alone"), ("write", "share"), ("share", "write"), ("alone", "read")])
        protocol = only(plain_protocol(), ["put", "read", "take"])
        self.assertEqual(weakest(protocol, [("put", 1), ("read", 1), ("take", 0)]), [
            ("read", "read", "alone"), ("write", "write", "share"), ("share", "share", "write"),
            ("alone", "alone", "read")])

    def test_places_in_another_order(self):
        self.assertEqual(weakest(PUT_TAKE, [("take", 0), ("put", 1)]), [
            ("read", "alone"), ("write", "share"), ("share", "write"), ("alone", "read")])
        split = only(plain_protocol(), ["direct", "split"])
        one = weakest(split, [("direct", 0), ("split", 1), ("split", 2)])
        other = weakest(split, [("split", 2), ("direct", 0), ("split", 1)])
        self.assertEqual(one, [("read", "alone", "alone"), ("write", "share", "share"), ("share", "write", "write"),
            ("alone", "read", "read")])
        self.assertEqual(sorted((mode, first, last) for last, mode, first in other), sorted(one))
        order = standard().modes().index
        self.assertEqual(other, sorted(other, key=lambda modes: [order(mode) for mode in modes]))

    def test_modes_that_are_as_strong_as_others(self):
        strengths = Strengths(["b", "a", "x", "y"], [("a", "x"), ("b", "x"), ("a", "y"), ("b", "y"), ("y", "y")])
        protocol = Rulebook(strengths, {
            "put": [("look",), ("lock", "table", "a"), ("again",), ("claim",), ("end",)],
            "take": [("lock", "table", "x"), ("close",)]})
        told = weakest(protocol, [("put", 1), ("take", 0)])
        self.assertEqual(told, weakest_by_words(protocol, [("put", 1), ("take", 0)]))
        self.assertLessEqual({("a", "x"), ("b", "x")}, set(told))

    def test_by_words(self):
        rng = random.Random(133)
        for protocol in (plain_protocol(), MORE):
            for _ in range(4):
                chosen = rng.sample(places(protocol), rng.choice([1, 2, 2]))
                self.assertEqual(weakest(protocol, chosen), weakest_by_words(protocol, chosen))
        for kinds in (["put", "take"], ["put", "hang"], ["read", "take"], ["direct", "hang"]):
            protocol = only(MORE, kinds)
            chosen = rng.sample(places(protocol), 3)
            self.assertEqual(weakest(protocol, chosen), weakest_by_words(protocol, chosen))

    def test_by_words_with_other_strengths(self):
        rng = random.Random(134)
        modes = ["e", "b", "d", "a", "top"]
        for _ in range(6):
            clashes = [pair for pair in itertools.combinations_with_replacement(modes, 2) if
                "top" in pair or rng.random() < 0.5]
            programs = {
                kind: [(*step[:2], "top") if len(step) == 3 else step for step in plain_protocol().program(kind)]
                for kind in ("read", "direct", "hang")}
            protocol = Rulebook(Strengths(modes, clashes), programs)
            chosen = rng.sample(places(protocol), 2)
            self.assertEqual(weakest(protocol, chosen), weakest_by_words(protocol, chosen))

    def test_many_modes(self):
        modes = list("abcdefgh")
        clashes = [pair for pair in itertools.combinations_with_replacement(modes, 2) if
            (ord(pair[0]) * ord(pair[1])) // 3 & 1 or "h" in pair]
        protocol = Rulebook(Strengths(modes, clashes), {
            kind: [(*step[:2], "h") if len(step) == 3 else step for step in plain_protocol().program(kind)]
            for kind in KINDS})
        told = weakest(protocol, [("split", 0), ("split", 1), ("split", 2)])
        for chosen in told[:5]:
            other = protocol
            for at, mode in enumerate(chosen):
                other = with_mode(other, ("split", at), mode)
            self.assertIs(is_right(other), True)
            self.assertIs(weaker_protocol(other, protocol), True)


class TestTooWeak(Case):

    def test_modes(self):
        self.assertIsNone(too_weak(PUT_TAKE, ("take", 0), "alone"))
        self.assertIsNone(too_weak(protocol=PUT_TAKE, place=("take", 0), mode="share"))
        for mode in ("read", "write"):
            start, weaving = too_weak(PUT_TAKE, ("take", 0), mode)
            self.assertIs(is_small(start, weaving), True)
            self.assertEqual(start.protocol, with_mode(PUT_TAKE, ("take", 0), mode))
            self.assertEqual({index for index, *_ in events(start, weaving)}, {len(weaving) - 1})

    def test_by_words(self):
        for protocol in (plain_protocol(), MORE):
            for place in places(protocol):
                told = [mode for mode in standard().modes() if too_weak(protocol, place, mode) is None]
                self.assertEqual(told, fitting_modes(protocol, place))


class TestExceptions(Case):

    def test_no_protocols(self):
        for call, more in (
                (needless, []), (slim, []), (fitting_modes, [None]), (weakest, [None]), (too_weak, [None, None])):
            for value in every_value():
                if not isinstance(value, Rulebook):
                    self.assert_error("InvalidProtocol", value, call, value, *more)

    def test_wrong_protocols(self):
        for protocol in (WRONG, rules(*BARE)):
            for call, more in (
                    (needless, []), (slim, []), (fitting_modes, [None]), (weakest, [None]), (too_weak, [None, None])):
                with self.assertRaises(errors.NotRight):
                    call(protocol, *more)

    def test_no_places(self):
        for value in [*every_value(), ("put", 0), ("put", 5), ("put", -1), ("put", True), ("take", False), ("strike",
        1),
                ["put", 1], ("put", 1, 1), ("take", 1), ("take",), ("look", 0), (0, "put")]:
            self.assert_error("InvalidNumber", value, fitting_modes, PUT_TAKE, value)
            self.assert_error("InvalidNumber", value, too_weak, PUT_TAKE, value, None)
            chosen = [("put", 1), value]
            self.assert_error("InvalidNumber", chosen, weakest, PUT_TAKE, chosen)

    def test_no_lists_of_places(self):
        four = places(plain_protocol())[:4]
        for value in [*every_value(), [], four, (("put", 1),), ("put", 1), [("put", 1), ("put", 1)],
                [("take", 0), ("put", 1), ("take", 0)], [("put", 1), ("put", 2)], [("put", True)], [["put", 1]],
                {("put", 1): True}, "put 1"]:
            self.assert_error("InvalidNumber", value, weakest, only(plain_protocol(), KINDS[:4]), value)
        self.assertEqual(len(weakest(plain_protocol(), four[:3])), 1)

    def test_no_modes(self):
        for value in [*every_value(), "reed", "READ", ["read"], ("read",)]:
            self.assert_error("UnknownMode", value, too_weak, PUT_TAKE, ("put", 1), value)

    def test_what_was_passed_stays_as_it_was(self):
        chosen = [("put", 1), ("take", 0)]
        told = weakest(PUT_TAKE, chosen)
        told.clear()
        self.assertEqual(chosen, [("put", 1), ("take", 0)])
        self.assertEqual(len(weakest(PUT_TAKE, chosen)), 4)
        self.assertEqual(PUT_TAKE, only(plain_protocol(), ["put", "take"]))

    def test_what_stands_in_the_file(self):
        for name in ("needless", "slim", "fitting_modes", "weakest", "too_weak"):
            self.assertEqual(getattr(module, name).__module__, "hungparts.weakest")

    def test_answers_come_within_seconds(self):
        protocol = read_protocol(str(plain_protocol()))
        for chosen in itertools.islice(itertools.combinations(places(protocol), 3), 0, None, 150):
            self.assertGreater(len(weakest(protocol, list(chosen))), 0)


if __name__ == "__main__":
    unittest.main()
