"""Tests of [61], [64] and [71] to [77] together: stores do what the document tells word by word, in any order."""

import copy
import random
import unittest

from hungparts.changes import changed, fits, roles
from hungparts.catalogs import read_catalog
from hungparts.protocols import plain_protocol
from hungparts.store import Store
from tests.helper import Case, observed, rules

CHANGES = ("hang", "take", "split", "join")

PROTOCOLS = [
    plain_protocol(),
    rules(
        "put: look, lock part write, again, key, lock table read, put, end",
        "strike: look, lock part share, again, strike, lock table read, end",
        "read: view, look, lock part read, again, read, end",
        "direct: key, lock part alone, put, end",
        "hang: scan rest, lock rest share, scan new, switch, wait, lock new alone, end",
        "take: lock old alone, switch, wait, end",
        "split: lock old share, move, switch, wait, lock new alone, end",
        "join: lock rest read, lock old share, move, switch, wait, end",
    ),
    rules(
        "put: look, put, lock table read, end",
        "strike: look, again, strike, end",
        "read: look, view, again, read, end",
        "direct: border, claim, end",
        "hang: lock rest alone, close",
        "take: switch, wait, end",
        "split: move, close",
        "join: move, switch, end",
    ),
]
STARTS = [
    ("a ..4; b 4..8; rest c", {"a": [1, 3], "b": [5], "c": [9], "x": [1, 5]}),
    ("a ..4; b 4..8", {"a": [3], "y": [7]}),
    ("rest a", {"a": [1, 5, 9]}),
    ("a ..", {"x": [4]}),
]
WISHES = [
    ("put", 1), ("put", 5), ("put", 9), ("put", 3), ("strike", 1), ("strike", 5), ("strike", 9), ("read", 1),
    ("read", 5), ("read", 9), ("direct", "x", 1), ("direct", "x", 5), ("direct", "a", 5), ("direct", "b", 3),
    ("direct", "y", 7), ("direct", "a", 1), ("hang", "x", (None, 4)), ("hang", "y", (8, None)), ("hang", "x", (4, 8)),
    ("take", "a"), ("take", "b"), ("split", "a", 2, "x", "y"), ("split", "a", 5, "d", "x"), ("join", "a", "b", "x"),
    ("join", "x", "b", "a"), ("split", "b", 6, "x", "y"),
]


class Words:
    """A store that does what [71] to [76] tell, word by word."""

    def __init__(self, protocol, catalog, rows):
        self.protocol, self.catalog, self.edition = protocol, catalog, 0
        self.rows = {part: [[key, None, None] for key in keys] for part, keys in rows.items()}
        self.sessions = []

    def of(self, part):
        return self.rows.setdefault(part, [])

    def settled(self):
        return [at for at, one in enumerate(self.sessions) if one["outcome"] == "done" or one["switched"]]

    def real(self, version, settled):
        return version[1] is None or version[1] in settled

    def alive(self, part, settled, key=None):
        return [version for version in self.of(part) if (key is None or version[0] == key) and self.real(
            version, settled) and (version[2] is None or version[2] not in settled)]

    def marked(self, part, number, key=None):
        settled = self.settled()
        return {version[2] for version in self.of(part) if (key is None or version[0] == key) and self.real(
            version, settled) and version[2] is not None and version[2] != number and version[2] not in settled}

    def pending(self, part, number, key):
        settled = self.settled()
        born = {version[1] for version in self.of(part) if version[0] == key and version[1] is not None and
                version[1] != number and version[1] not in settled}
        return born | self.marked(part, number, key)

    def begin(self, asked):
        hand = asked[1] if asked[0] == "direct" else None
        self.sessions.append({
            "asked": asked, "steps": self.protocol.program(asked[0]), "next": 0, "outcome": "running", "hand": hand,
            "edition": None, "view": None, "told": None, "due": None, "locks": set(), "switched": False,
        })
        return len(self.sessions) - 1

    def step_of(self, number):
        one = self.sessions[number]
        return one["steps"][one["next"]]

    def things(self, number):
        one, word = self.sessions[number], self.step_of(number)[1]
        if word == "table":
            return ["table"]
        if word in ("old", "new"):
            return roles(one["asked"])[0 if word == "old" else 1]
        part = one["hand"] if word == "part" else self.catalog.rest
        return [] if part is None else [part]

    def others(self, number):
        return [(at, one) for at, one in enumerate(self.sessions) if at != number and one["outcome"] == "running"]

    def waits_for(self, number):
        one, step = self.sessions[number], self.step_of(number)
        found, key, hand = set(), one["asked"][-1], one["hand"]
        if one["asked"][0] in CHANGES and one["next"] == 0:
            found |= {at for at, other in self.others(number) if other["asked"][0] in CHANGES and other["next"] > 0}
        if step[0] == "lock":
            things = self.things(number)
            found |= {at for at, other in self.others(number) for thing, mode in other["locks"]
                      if thing in things and self.protocol.strengths.clash(step[2], mode)}
        if step[0] in ("key", "claim") and hand is not None:
            found |= self.pending(hand, number, key)
        if step[0] == "strike" and hand is not None:
            found |= self.marked(hand, number, key)
        if step[0] == "move" and fits(self.catalog, one["asked"]):
            for part in roles(one["asked"])[0]:
                found |= self.marked(part, number)
        if step[0] == "wait":
            found |= {at for at, other in self.others(number) if other["edition"] is not None and
                      other["edition"] < self.edition}
        return sorted(found)

    def end(self, number, outcome):
        one = self.sessions[number]
        if outcome == "refused":
            for part in self.rows:
                self.rows[part] = [version for version in self.of(part) if version[1] != number]
                for version in self.rows[part]:
                    version[2] = None if version[2] == number else version[2]
        one["outcome"], one["locks"] = outcome, set()
        return outcome

    def step(self, number):
        one, step = self.sessions[number], self.step_of(number)
        result = getattr(self, "do_" + step[0])(number, one, step)
        if result in ("done", "refused"):
            return self.end(number, result)
        if result == "anew":
            one.update({"locks": set(), "hand": None, "view": None, "due": None, "next": 0, "edition": None})
            return "anew"
        one["next"] += 1
        return "on"

    def do_look(self, number, one, step):
        one["hand"], one["edition"] = self.catalog.part_of(one["asked"][1]), self.edition

    def do_lock(self, number, one, step):
        one["locks"] |= {(thing, step[2]) for thing in self.things(number)}

    def do_again(self, number, one, step):
        return "anew" if one["edition"] != self.edition else None

    def do_border(self, number, one, step):
        _, part, key = one["asked"]
        return "refused" if part in self.catalog and self.catalog.part_of(key) != part else None

    def do_key(self, number, one, step):
        found = one["hand"] is not None and self.alive(one["hand"], self.settled(), one["asked"][-1])
        return "refused" if found else None

    def do_put(self, number, one, step):
        if one["hand"] is None:
            return "refused"
        self.of(one["hand"]).append([one["asked"][-1], number, None])
        return None

    def do_claim(self, number, one, step):
        return self.do_key(number, one, step) or self.do_put(number, one, step)

    def do_strike(self, number, one, step):
        found = [] if one["hand"] is None else self.alive(one["hand"], self.settled(), one["asked"][1])
        for version in found:
            version[2] = number
        one["told"] = len(found)

    def do_view(self, number, one, step):
        one["view"], key = self.settled(), one["asked"][1]
        part = self.catalog.part_of(key)
        one["due"] = 0 if part is None else len(self.alive(part, one["view"], key))

    def do_read(self, number, one, step):
        one["told"] = 0 if one["hand"] is None else len(self.alive(one["hand"], one["view"], one["asked"][1]))

    def do_scan(self, number, one, step):
        name, (low, high) = one["asked"][1:]
        part = name if step[1] == "new" else self.catalog.rest
        keys = [] if part is None else [version[0] for version in self.alive(part, self.settled())]
        inside = [(low is None or low <= key) and (high is None or key < high) for key in keys]
        return "refused" if (not all(inside) if step[1] == "new" else any(inside)) else None

    def do_move(self, number, one, step):
        if not fits(self.catalog, one["asked"]):
            return "refused"
        old, new = roles(one["asked"])
        if any(self.alive(part, self.settled()) for part in new):
            return "refused"
        behind = changed(self.catalog, one["asked"])
        for part in old:
            for version in self.alive(part, self.settled()):
                target = behind.part_of(version[0])
                if target not in (None, part):
                    version[2] = number
                    self.of(target).append([version[0], number, None])
        return None

    def do_switch(self, number, one, step):
        if not fits(self.catalog, one["asked"]):
            return "refused"
        self.catalog, self.edition, one["switched"] = changed(self.catalog, one["asked"]), self.edition + 1, True
        return None

    def do_close(self, number, one, step):
        return self.do_switch(number, one, step) or "done"

    def do_wait(self, number, one, step):
        return None

    def do_end(self, number, one, step):
        return "done"

    def observed(self):
        """What helper.observed tells of a store."""
        parts = sorted(part for part in self.rows if self.rows[part])
        running = [at for at, one in enumerate(self.sessions) if one["outcome"] == "running"]
        each = [[
            one["asked"], one["outcome"], self.step_of(at) if at in running else None, one["hand"], one["told"],
            one["due"], sorted(one["locks"]), at in running and not self.waits_for(at),
        ] for at, one in enumerate(self.sessions)]
        rows = [[sorted(version[0] for version in self.alive(part, self.settled())), sorted(
            str(tuple(version)) for version in self.of(part))] for part in parts]
        holders = [[(at, mode) for at, one in enumerate(self.sessions) for held, mode in sorted(one["locks"])
                    if held == thing] for thing in ["table", *parts, *self.catalog.names()]]
        return [
            str(self.catalog), self.edition, len(self.sessions), parts, running, self.settled(), each,
            [self.waits_for(at) for at in running], rows, holders,
        ]


def opened(protocol, start):
    """A store and its words, as they are made."""
    text, rows = start
    return Store(protocol, read_catalog(text), rows), Words(protocol, read_catalog(text), copy.deepcopy(rows))


class TestWalks(Case):

    def test_walks(self):
        told = {}
        for seed in range(1500):
            chance = random.Random(seed)
            self.walk(chance, *opened(chance.choice(PROTOCOLS), chance.choice(STARTS)), told)
        # The walks have met whatever a step can return, often.
        for result in ("on", "anew", "done", "refused", "waits"):
            self.assertGreater(told[result], 50)

    def walk(self, chance, store, words, told):
        """Begin sessions and do steps at random until none can go on; both tell the same all the time."""
        wishes = [chance.choice(WISHES) for _ in range(chance.randrange(2, 7))]
        while wishes or [number for number in store.running() if store.can(number)]:
            able = [number for number in store.running() if store.can(number)]
            if wishes and (not able or chance.random() < 0.3):
                asked = wishes.pop()
                self.assertEqual(store.begin(asked), words.begin(asked))
            else:
                number = chance.choice(able)
                result = store.step(number)
                self.assertEqual(result, words.step(number))
                told[result] = told.get(result, 0) + 1
            told["waits"] = told.get("waits", 0) + len(store.running()) - len(able)
            self.assertEqual(observed(store), words.observed())
            for part in store.parts():
                self.assertEqual(store.versions(part), [tuple(version) for version in words.of(part)])


class TestStates(Case):

    def test_stores_with_equal_states_go_on_alike(self):
        shared = 0
        for seed in range(60):
            chance = random.Random(seed)
            store, _ = opened(chance.choice(PROTOCOLS), chance.choice(STARTS))
            for _ in range(3):
                store.begin(chance.choice(WISHES))
            shared += self.look_through(store)
        self.assertGreater(shared, 5000)

    def look_through(self, store):
        """Reach each state in all ways: whatever the way, the store tells the same, and so do its next steps."""
        known, shared = {store.state(): self.told(store)}, 0
        waiting = [store]
        while waiting:
            behind = waiting.pop()
            for number in behind.running():
                if behind.can(number):
                    further = behind.copy()
                    further.step(number)
                    state = further.state()
                    self.assertNotEqual(state, behind.state())
                    if state in known:
                        shared += 1
                        self.assertEqual(self.told(further), known[state])
                    else:
                        known[state] = self.told(further)
                        waiting.append(further)
        return shared

    def told(self, store):
        """All that a store tells, what its next steps return, and the states behind them."""
        steps = []
        for number in store.running():
            if store.can(number):
                further = store.copy()
                steps.append([number, further.step(number), further.state()])
        more = store.copy()
        begun = [more.begin(("put", 3)), more.begin(("take", "a")), more.state()]
        return [observed(store), steps, begun]


if __name__ == "__main__":
    unittest.main()
