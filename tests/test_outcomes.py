"""Tests of [141] to [145]: cases, outcomes, serial ones, strange ones, and what explains logs."""

import itertools
import random
import unittest

from hungparts import outcomes as module
from hungparts.catalogs import Catalog, read_catalog
from hungparts.outcomes import (
    added_outcomes, behind_logs, end_result, explains, is_case, modes_told, outcomes, serial_outcomes, strange_outcomes,
    way_to,
)
from hungparts.protocols import Rulebook, places, plain_protocol, weaker_protocol, with_mode
from hungparts.store import Store
from hungparts.strengths import standard
from hungparts.verdicts import only
from hungparts.weavings import endings, run
from tests.helper import BARE, KINDS, Case, every_value, observed, opened, rules
from tests.test_scenes import BOOK as CATALOG
from tests.test_scenes import NO_SCENES

BOOK = "a 0..10; b 10..20; rest c"
SPLIT = ("split", "a", 5, "d", "e")
# Two kinds that can wait for each other.
CROSSED = rules(
    "put: look, lock table alone, lock part alone, put, end",
    "strike: look, lock part alone, lock table alone, strike, end", "read: look, view, read, end",
)
PUT_TAKE = only(plain_protocol(), ["put", "take"])


def result_by_words(store):
    """The result of a store by the words of [141]."""
    texts = []
    for number in range(len(store)):
        tells = store.asked(number)[0] in ("strike", "read") and store.outcome(number) == "done"
        texts.append(f"done {store.told(number)}" if tells else store.outcome(number))
    parts = [part for part in store.parts() if store.alive(part)]
    rows = "; ".join(" ".join([part, *map(str, store.alive(part))]) for part in parts)
    return (*texts, rows or "-")


def ends_by_words(protocol, case):
    """All endings of a case, each with its result."""
    store = opened(protocol, str(case[0]), case[2], case[1])
    return [(ending, result_by_words(run(store, ending)[0])) for ending in endings(store)]


def random_case(rng, kinds, most):
    """A case with at most so many sessions of some kinds."""
    text = rng.choice([BOOK, "a 0..10", "rest c", "a 0..10; b 10..20", "empty"])
    rows = {}
    for _ in range(rng.randrange(3)):
        part, key = rng.choice("abcd"), rng.choice([3, 7, 13])
        book = read_catalog(text)
        if part not in book or book.part_of(key) == part:
            rows[part] = sorted({*rows.get(part, []), key})
    sessions = []
    for _ in range(rng.randrange(1, most + 1)):
        kind, key, names = rng.choice(kinds), rng.choice([3, 3, 7, 13]), rng.sample("abcd", 3)
        sessions.append({
            "put": ("put", key), "strike": ("strike", key), "read": ("read", key), "direct": ("direct", names[0], key),
            "hang": ("hang", names[0], rng.choice([(0, 5), (20, 30)])), "take": ("take", names[0]),
            "split": ("split", "a", 5, "d", "e"), "join": ("join", "a", "b", "d"),
        }[kind])
    return read_catalog(text), rows, sessions


class TestIsCase(Case):

    def test_cases(self):
        for case in (
                (Catalog(), {}, [("put", 3)]), (CATALOG, {"a": [3, 4, 5], "x": [99]}, [("put", 3)] * 4),
                (CATALOG, {}, [("take", "a"), ("take", "b"), ("put", 3), ("read", 4)]),
                (CATALOG, {"a": []}, [("hang", "d", (0, None)), SPLIT])):
            self.assertIs(is_case(case), True)
            self.assertIs(is_case(value=case), True)

    def test_each_condition_alone(self):
        # What else scenes ought to have, cases need not.
        good = [value for value in NO_SCENES if is_case(value)]
        self.assertEqual(good, [
            (CATALOG, {}, [("put", 3)] * 3), (CATALOG, {}, [("take", "a"), ("take", "b")]),
            (CATALOG, {}, [("take", "a"), ("take", "a")]), (CATALOG, {"a": [3], "d": [3], "e": [3]}, [("put", 3)]),
            (CATALOG, {"a": [3, 4]}, [("take", "a")]), (CATALOG, {"a": [3], "d": [4]}, [("take", "a")]),
            (CATALOG, {"a": [3]}, [("put", 4)]), (CATALOG, {"a": [3]}, [("take", "a"), ("put", 4)]),
            (CATALOG, {}, [("put", 3), ("put", 4)]), (CATALOG, {}, [("put", 3), ("direct", "a", 4)]),
        ])
        self.assertIs(is_case((CATALOG, {}, [("put", 3)] * 5)), False)
        self.assertIs(is_case((CATALOG, {}, [])), False)

    def test_any_values(self):
        for value in every_value():
            self.assertIs(is_case(value), False)
            self.assertIs(is_case((CATALOG, {}, value)), False)
            self.assertIs(is_case((CATALOG, {}, [("put", 3), value])), False)

    def test_what_stands_in_the_file(self):
        for name in (
                "is_case", "end_result", "outcomes", "way_to", "serial_outcomes", "strange_outcomes", "added_outcomes",
                "explains", "behind_logs", "modes_told"):
            self.assertEqual(getattr(module, name).__module__, "hungparts.outcomes")


class TestEndResult(Case):

    def test_sessions(self):
        sessions = [("put", 3), ("put", 3), ("strike", 7), ("read", 7), ("take", "b"), ("read", 4), ("strike", 4)]
        store = opened(plain_protocol(), BOOK, sessions, {"a": [7]})
        self.assertEqual(end_result(store), (*["running"] * 7, "a 7"))
        behind, _ = run(store, [0] * 5 + [1] * 4 + [2] * 5 + [3] * 6 + [5] * 5 + [6] * 4)
        self.assertEqual(end_result(behind), ("done", "refused", "done 1", "done 0", "running", "running", "running",
            "a 3"))
        self.assertEqual(end_result(store=run(behind, [5, 6, 4, 4])[0]), (
            "done", "refused", "done 1", "done 0", "done", "done 0", "done 0", "a 3"))

    def test_rows(self):
        for rows, told in (
                ({}, "-"), ({"a": []}, "-"), ({"a": [3]}, "a 3"), ({"c": [-25, 30, 25], "a": [7, 3], "x": [3], "b": []},
                    "a 3 7; c -25 25 30; x 3")):
            self.assertEqual(end_result(opened(plain_protocol(), BOOK, rows=rows)), (told,))
        # A key twice, and rows that are not alive yet or no more.
        store = opened(rules(*BARE), BOOK, [("put", 3), ("strike", 7), ("put", 4)], {"a": [7, 3]})
        behind, _ = run(store, [0, 0, 0, 1, 1, 2, 2])
        self.assertEqual(end_result(behind), ("done", "running", "running", "a 3 3 7"))
        self.assertEqual(end_result(run(behind, [1, 2])[0]), ("done", "done 1", "done", "a 3 3 4"))

    def test_by_words(self):
        rng = random.Random(141)
        for _ in range(150):
            case = random_case(rng, KINDS, 4)
            store = opened(rng.choice([rules(*BARE), plain_protocol()]), str(case[0]), case[2], case[1])
            for _ in range(rng.randrange(20)):
                able = [number for number in store.running() if store.can(number)]
                if able:
                    store.step(rng.choice(able))
            before = observed(store)
            self.assertEqual(end_result(store), result_by_words(store))
            self.assertEqual(observed(store), before)

    def test_no_stores(self):
        for value in every_value():
            if not isinstance(value, Store):
                self.assert_error("InvalidStore", value, end_result, value)


class TestOutcomes(Case):

    def test_ordinary_ones(self):
        case = (read_catalog("a 0..10"), {}, [("put", 3), ("take", "a")])
        self.assertEqual(outcomes(protocol=plain_protocol(), case=case), [
            ("done", "done", "a 3"), ("refused", "done", "-")])
        self.assertEqual(outcomes(rules(*BARE), case), [("done", "done", "a 3"), ("refused", "done", "-")])
        case = (read_catalog(BOOK), {"a": [3]}, [("strike", 3), ("read", 3)])
        self.assertEqual(outcomes(rules(*BARE), case), [("done 1", "done 0", "-"), ("done 1", "done 1", "-")])

    def test_sessions_that_get_stuck(self):
        case = (CATALOG, {}, [("put", 3), ("strike", 3)])
        self.assertEqual(outcomes(CROSSED, case), [
            ("done", "done 0", "a 3"), ("done", "done 1", "-"), ("running", "running", "-")])

    def test_by_words(self):
        rng = random.Random(142)
        many = set()
        for _ in range(120):
            protocol = rng.choice([rules(*BARE), plain_protocol(), CROSSED, CROSSED])
            case = random_case(rng, protocol.kinds(), 2)
            ends = ends_by_words(protocol, case)
            told = outcomes(protocol, case)
            self.assertEqual(told, sorted({result for _, result in ends}))
            many.add(len(told))
            for result in told:
                ways = [ending for ending, other in ends if other == result]
                least = min(len(way) for way in ways)
                self.assertEqual(way_to(protocol, case, result), min(way for way in ways if len(way) == least))
        self.assertLessEqual({1, 2, 3}, many)

    def test_many_sessions(self):
        sessions = [("put", 3), ("strike", 3), ("read", 3), SPLIT]
        for protocol in (rules(*BARE), plain_protocol()):
            told = outcomes(protocol, (CATALOG, {"a": [3, 7]}, sessions))
            self.assertEqual(told, sorted(set(told)))
            self.assertEqual({len(result) for result in told}, {5})

    def test_lists_that_were_passed_and_told(self):
        rows, sessions = {"a": [3]}, [("put", 4), ("take", "a")]
        outcomes(plain_protocol(), (CATALOG, rows, sessions)).clear()
        self.assertEqual(len(outcomes(plain_protocol(), (CATALOG, rows, sessions))), 2)
        self.assertEqual((rows, sessions), ({"a": [3]}, [("put", 4), ("take", "a")]))


class TestWayTo(Case):

    def test_ways_of_the_same_length(self):
        case = (CATALOG, {}, [("read", 3), ("read", 3)])
        told = ("done 0", "done 0", "-")
        self.assertEqual(way_to(rules(*BARE), case, told), [0, 0, 0, 0, 1, 1, 1, 1])
        case = (CATALOG, {}, [("put", 3), ("read", 3)])
        self.assertEqual(way_to(rules(*BARE), case, ("done", "done 0", "a 3")), [0, 0, 1, 1, 0, 1, 1])
        self.assertEqual(way_to(rules(*BARE), case, ("done", "done 1", "a 3")), [0, 0, 0, 1, 1, 1, 1])
        self.assertEqual(way_to(protocol=CROSSED, case=(CATALOG, {}, [("put", 3), ("strike", 3)]),
            told=("running", "running", "-")), [0, 0, 1, 1])

    def test_the_shortest(self):
        # With a change in between the put takes longer, since it begins anew.
        case = (CATALOG, {}, [("put", 13), ("take", "a")])
        turns = way_to(plain_protocol(), case, ("done", "done", "b 13"))
        self.assertEqual(turns, [0, 0, 0, 0, 0, 1, 1])

    def test_none(self):
        case = (CATALOG, {}, [("put", 3)])
        for told in (("done", "-"), ("refused", "a 3"), ("done", "a 3", "-"), ("a 3",), (), ["done", "a 3"],
        "done a 3"):
            self.assertIsNone(way_to(plain_protocol(), case, told))
        self.assertEqual(way_to(plain_protocol(), case, ("done", "a 3")), [0] * 5)
        for value in every_value():
            self.assertIsNone(way_to(plain_protocol(), case, value))


class TestSerial(Case):

    def test_one_session(self):
        case = (CATALOG, {"a": [3]}, [("put", 3)])
        self.assertEqual(serial_outcomes(protocol=plain_protocol(), case=case), [("refused", "a 3")])
        self.assertEqual(strange_outcomes(protocol=plain_protocol(), case=case), [])

    def test_strange_ones(self):
        case = (CATALOG, {}, [("put", 3), ("put", 3)])
        self.assertEqual(serial_outcomes(plain_protocol(), case), [("done", "refused", "a 3"), ("refused", "done",
            "a 3")])
        self.assertEqual(strange_outcomes(plain_protocol(), case), [])
        protocol = rules("put: look, key, put, end")
        self.assertEqual(serial_outcomes(protocol, case), [("done", "refused", "a 3"), ("refused", "done", "a 3")])
        self.assertEqual(strange_outcomes(protocol, case), [("done", "done", "a 3 3")])
        stuck = (CATALOG, {}, [("put", 3), ("strike", 3)])
        self.assertEqual(strange_outcomes(CROSSED, stuck), [("running", "running", "-")])

    def test_by_words(self):
        rng = random.Random(143)
        for _ in range(80):
            protocol = rng.choice([rules(*BARE), plain_protocol()])
            case = random_case(rng, KINDS, 4)
            start = opened(protocol, str(case[0]), case[2], case[1])
            found = set()
            for order in itertools.permutations(range(len(case[2]))):
                store = start.copy()
                for number in order:
                    while store.outcome(number) == "running":
                        store.step(number)
                found.add(result_by_words(store))
            told, all_told = serial_outcomes(protocol, case), outcomes(protocol, case)
            self.assertEqual(told, sorted(found))
            self.assertLessEqual(found, set(all_told))
            self.assertEqual(strange_outcomes(protocol, case), sorted(set(all_told) - found))


class TestAdded(Case):

    def test_added_ones(self):
        case = (CATALOG, {}, [("put", 3), ("put", 3)])
        careless = rules("put: look, key, put, end")
        self.assertEqual(added_outcomes(careless, plain_protocol(), case), [("done", "done", "a 3 3")])
        self.assertEqual(added_outcomes(protocol=plain_protocol(), other=careless, case=case), [])
        self.assertEqual(added_outcomes(careless, careless, case), [])

    def test_by_words(self):
        rng = random.Random(144)
        for _ in range(40):
            one, other = rng.choice([rules(*BARE), plain_protocol()]), rng.choice([CROSSED, plain_protocol()])
            case = random_case(rng, ["put", "strike", "read"], 3)
            told = added_outcomes(one, other, case)
            self.assertEqual(told, sorted(set(outcomes(one, case)) - set(outcomes(other, case))))

    def test_weaker_protocols_have_more_outcomes(self):
        rng = random.Random(145)
        compared = 0
        for _ in range(60):
            strong = rng.choice([plain_protocol(), CROSSED])
            weak = strong
            for place in rng.sample(places(strong), rng.randrange(1, 3)):
                weak = with_mode(weak, place, rng.choice(standard().modes()))
            if weaker_protocol(weak, strong):
                compared += 1
                for told in added_outcomes(strong, weak, random_case(rng, strong.kinds(), 3)):
                    self.assertIn("running", told)
        self.assertGreater(compared, 20)

    def test_exceptions_in_their_order(self):
        case = (CATALOG, {}, [("put", 3), ("read", 3)])
        few, more = rules("put: look, put, end"), rules(*BARE)
        for value in every_value():
            if not isinstance(value, Rulebook):
                self.assert_error("InvalidProtocol", value, added_outcomes, value, None, None)
                self.assert_error("InvalidProtocol", value, added_outcomes, more, value, case)
            self.assert_error("InvalidScene", value, added_outcomes, few, None, value)
        self.assert_error("NoProgram", "read", added_outcomes, few, None, case)
        self.assert_error("NoProgram", "read", added_outcomes, more, few, case)


LOGS = [
    ((CATALOG, {}, [("put", 3), ("put", 3)]), ("done", "refused", "a 3")),
    ((CATALOG, {}, [("put", 3), ("take", "a")]), ("refused", "done", "-")),
    ((CATALOG, {}, [("put", 3), ("put", 3)]), ("refused", "done", "a 3")),
]
TWICE = ((CATALOG, {}, [("put", 3), ("put", 3)]), ("done", "done", "a 3 3"))


class TestLogs(Case):

    def test_logs_that_fit_and_that_do_not(self):
        empty = (read_catalog("a 0..10"), {}, [("put", 3), ("take", "a")])
        careless = rules("put: look, key, put, end", "take: close")
        self.assertIs(explains(PUT_TAKE, LOGS[:1]), True)
        self.assertIs(explains(protocol=PUT_TAKE, logs=[LOGS[0], LOGS[2]]), True)
        self.assertIs(explains(PUT_TAKE, [LOGS[0], LOGS[2], TWICE]), False)
        self.assertIs(explains(careless, [LOGS[0], LOGS[2], TWICE]), True)
        self.assertIs(explains(PUT_TAKE, [(empty, ("refused", "done", "-"))]), True)
        self.assertIs(explains(PUT_TAKE, [(empty, ("refused", "done", "a 3"))]), False)
        self.assertIs(explains(PUT_TAKE, []), True)

    def test_results_that_are_none(self):
        case = LOGS[0][0]
        for told in ((), ("done",), ("done", "refused"), ("done", "refused", "a 3", "-"), ("", "", ""), ("a 3",)):
            self.assertIs(explains(PUT_TAKE, [(case, told)]), False)

    def test_kinds_without_programs(self):
        self.assertIs(explains(PUT_TAKE, [((CATALOG, {}, [("read", 3)]), ("done 0", "-"))]), False)
        self.assertIs(explains(plain_protocol(), [((CATALOG, {}, [("read", 3)]), ("done 0", "-"))]), True)
        self.assertIs(explains(Rulebook(standard(), {}), []), True)
        self.assertIs(explains(PUT_TAKE, [((CATALOG, {}, [("put", 3), ("read", 3)]), ("done", "done 0", "a 3"))]),
            False)

    def test_behind_logs(self):
        careless = rules("put: look, key, put, end", "take: close")
        protocols = [PUT_TAKE, careless, plain_protocol(), rules("put: look, claim, end"), PUT_TAKE]
        self.assertEqual(behind_logs(protocols, [LOGS[0]]), [0, 1, 2, 3, 4])
        self.assertEqual(behind_logs(protocols=protocols, logs=[TWICE]), [1])
        self.assertEqual(behind_logs(protocols, [LOGS[0], ((CATALOG, {}, [("take", "a")]), ("done", "-"))]), [0, 1, 2,
            4])
        self.assertEqual(behind_logs(protocols, []), [0, 1, 2, 3, 4])
        self.assertEqual(behind_logs([], LOGS), [])

    def test_modes_told(self):
        # Two puts of one key can both be done only if their locks let them go on beside each other.
        protocol = rules("put: look, lock table alone, key, put, end", "read: look, view, read, end")
        self.assertEqual(modes_told(protocol, [("put", 1)], [TWICE]), [("read",), ("write",), ("share",)])
        self.assertEqual(modes_told(protocol, [("put", 1)], [TWICE, LOGS[0]]), [("read",), ("write",), ("share",)])
        self.assertEqual(modes_told(protocol, [("put", 1)], LOGS[:1]), [(mode,) for mode in standard().modes()])
        protocol = rules("put: look, lock table alone, lock part alone, key, put, end")
        self.assertEqual(modes_told(protocol, [("put", 2), ("put", 1)], [TWICE]), [
            modes for modes in itertools.product(standard().modes(), repeat=2) if "alone" not in modes])

    def test_modes_told_of_sessions_that_are_stuck(self):
        case = (CATALOG, {}, [("put", 3), ("strike", 3)])
        logs = [(case, ("running", "running", "-"))]
        clash = standard().clash
        for chosen in ([("put", 1)], [("strike", 2), ("put", 1)], [("put", 1), ("put", 2), ("strike", 1)]):
            modes = modes_told(protocol=CROSSED, chosen=chosen, logs=logs)
            found = []
            for told in itertools.product(standard().modes(), repeat=len(chosen)):
                now = {**{place: "alone" for place in places(CROSSED)}, **dict(zip(chosen, told))}
                if clash(now["put", 1], now["strike", 2]) and clash(now["put", 2], now["strike", 1]):
                    found.append(told)
            self.assertEqual(modes, found)
            self.assertIn(("alone",) * len(chosen), modes)

    def test_modes_told_by_words(self):
        rng = random.Random(146)
        found = set()
        for _ in range(25):
            protocol = rng.choice([only(plain_protocol(), rng.sample(KINDS, 3)), CROSSED])
            chosen = rng.sample(places(protocol), rng.choice([1, 2, 2, min(3, len(places(protocol)))]))
            logs = []
            for _ in range(rng.randrange(1, 4)):
                case = random_case(rng, protocol.kinds(), 2)
                strange = protocol
                for place in chosen:
                    strange = with_mode(strange, place, rng.choice(standard().modes()))
                logs.append((case, rng.choice(outcomes(strange, case))))
            told = []
            for modes in itertools.product(standard().modes(), repeat=len(chosen)):
                other = protocol
                for place, mode in zip(chosen, modes):
                    other = with_mode(other, place, mode)
                told += [modes] if explains(other, logs) else []
            self.assertEqual(modes_told(protocol, chosen, logs), told)
            found.add(len(told))
        self.assertGreater(len(found), 3)
        self.assertEqual(modes_told(PUT_TAKE, [("put", 1)], [((CATALOG, {}, [("read", 3)]), ("done 0", "-"))]), [])

    def test_many_logs_of_many_sessions(self):
        sessions = [("put", 3), ("strike", 3), ("read", 3), SPLIT]
        case = (CATALOG, {"a": [3]}, sessions)
        logs = [(case, told) for told in outcomes(plain_protocol(), case)] * 10
        told = modes_told(plain_protocol(), [("put", 1), ("read", 1), ("split", 0)], logs)
        self.assertIn(("write", "read", "alone"), told)


NO_LOGS = [
    LOGS[0], tuple(LOGS), [LOGS[0][0]], [LOGS[0][:1]], [(*LOGS[0], ())], [list(LOGS[0])], [(LOGS[0][0], ["done", "-"])],
    [(LOGS[0][0], ("done", None))], [(LOGS[0][0], (1, "-"))], [(LOGS[0][0], "done -")], [*LOGS, None], {0: LOGS[0]},
    [((CATALOG, {}, []), ("-",))], [((CATALOG, {}, [("put", 3)] * 5), ("-",))], [((None, {}, [("put", 3)]), ("-",))],
    [((CATALOG, None, [("put", 3)]), ("-",))], [LOGS[0][::-1]], [(LOGS[0][0], None)],
]


class TestExceptions(Case):

    def test_cases(self):
        few = rules("put: look, put, end")
        for call, more in ((outcomes, []), (way_to, [None]), (serial_outcomes, []), (strange_outcomes, [])):
            for value in every_value():
                if not isinstance(value, Rulebook):
                    self.assert_error("InvalidProtocol", value, call, value, None, *more)
                self.assert_error("InvalidScene", value, call, few, value, *more)
            self.assert_error("NoProgram", "read", call, few, (CATALOG, {}, [("read", 3), ("strike", 3)]), *more)
            self.assert_error("NoProgram", "take", call, few, (CATALOG, {}, [("put", 3), ("take", "a")]), *more)

    def test_logs(self):
        for value in every_value():
            if not isinstance(value, Rulebook):
                self.assert_error("InvalidProtocol", value, explains, value, None)
                self.assert_error("InvalidProtocol", value, modes_told, value, None, None)
                self.assert_error("InvalidProtocol", value, behind_logs, [PUT_TAKE, value, None], None)
            if not isinstance(value, list):
                self.assert_error("InvalidProtocol", value, behind_logs, value, None)
        for value in [value for value in every_value() if value != []] + NO_LOGS:
            self.assert_error("InvalidLog", value, explains, PUT_TAKE, value)
            self.assert_error("InvalidLog", value, behind_logs, [PUT_TAKE], value)
            self.assert_error("InvalidLog", value, behind_logs, [], value)
            self.assert_error("InvalidLog", value, modes_told, PUT_TAKE, [("put", 1)], value)
        protocols = (PUT_TAKE,)
        self.assert_error("InvalidProtocol", protocols, behind_logs, protocols, None)

    def test_places(self):
        four = places(plain_protocol())[:4]
        for value in [*every_value(), [], four, (("put", 1),), ("put", 1), [("put", 1), ("put", 1)], [("put", 0)],
                [("put", True)], [["put", 1]], [("put", 1), None]]:
            self.assert_error("InvalidNumber", value, modes_told, plain_protocol(), value, None)
        self.assertEqual(len(modes_told(plain_protocol(), four[:3], [])), 64)

    def test_what_was_passed_stays_as_it_was(self):
        logs = list(LOGS)
        chosen = [("put", 1)]
        modes_told(PUT_TAKE, chosen, logs).clear()
        behind_logs([PUT_TAKE], logs).clear()
        self.assertEqual((chosen, logs), ([("put", 1)], LOGS))
        self.assertEqual(behind_logs([PUT_TAKE], logs[:1]), [0])


if __name__ == "__main__":
    unittest.main()
