"""Tests of [61] to [65]: versions of rows, and the heap that holds them."""

import itertools
import random
import unittest

from hungparts import versions
from hungparts.catalogs import Catalog, read_catalog
from hungparts.versions import Heap
from tests.helper import BIG, INTEGERS, NAMES, NO_NAMES, Case, every_value, others

METHODS = [
    "__init__", "parts", "versions", "alive", "count", "pending", "marked", "put", "strike", "move", "forget", "copy",
    "__eq__", "listed",
]
# The sessions of the tests, and all lists of those of them that are settled.
NUMBERS = [0, 1, 2]
SETTLED = [list(row) for many in range(4) for row in itertools.combinations(NUMBERS, many)]
BOOK = read_catalog("a ..2; b 2..4; rest c")


def struck(heap, part, key, number, settled):
    """The heap in which a session has struck the versions of a key that are alive."""
    heap.strike(part, key, number, settled)
    return heap


class Plain:
    """Versions as [61] to [64] tell of them, word by word."""

    def __init__(self, rows):
        self.rows = {part: [[key, None, None] for key in keys] for part, keys in rows.items()}

    def of(self, part):
        return self.rows.setdefault(part, [])

    def real(self, version, settled):
        return version[1] is None or version[1] in settled

    def alive(self, version, settled):
        is_struck = version[2] is not None and version[2] in settled
        return self.real(version, settled) and not is_struck

    def marked(self, version, number, settled):
        dead = version[2]
        return self.real(version, settled) and dead is not None and dead != number and dead not in settled

    def born_by_other(self, version, number, settled):
        born = version[1]
        return born is not None and born != number and born not in settled

    def told_marked(self, part, number, settled, key=None):
        found = set()
        for version in self.of(part):
            if (key is None or version[0] == key) and self.marked(version, number, settled):
                found.add(version[2])
        return sorted(found)

    def told_pending(self, part, key, number, settled):
        found = set(self.told_marked(part, number, settled, key))
        for version in self.of(part):
            if version[0] == key and self.born_by_other(version, number, settled):
                found.add(version[1])
        return sorted(found)

    def put(self, part, key, number):
        self.of(part).append([key, number, None])

    def strike(self, part, key, number, settled):
        found = [version for version in self.of(part) if version[0] == key and self.alive(version, settled)]
        for version in found:
            version[2] = number
        return len(found)

    def move(self, part, catalog, number, settled):
        many = 0
        for version in list(self.of(part)):
            target = catalog.part_of(version[0])
            if self.alive(version, settled) and target is not None and target != part:
                version[2] = number
                self.put(target, version[0], number)
                many += 1
        return many

    def forget(self, number):
        for part in self.rows:
            self.rows[part] = [version for version in self.rows[part] if version[1] != number]
            for version in self.rows[part]:
                if version[2] == number:
                    version[2] = None


class TestInterface(Case):

    def test_methods_stand_in_the_class_and_the_class_in_the_file(self):
        for name in METHODS:
            self.assertIn(name, vars(Heap))
        self.assertEqual(versions.Heap.__module__, "hungparts.versions")

    def test_arguments_may_be_passed_by_name(self):
        heap = Heap(rows={"a": [3, 1]})
        heap.put(number=0, key=5, part="a")
        self.assertEqual(heap.alive(settled=[0], part="a"), [1, 3, 5])
        self.assertEqual(heap.count(settled=[], key=5, part="a"), 0)
        self.assertEqual(heap.pending(settled=[], number=1, key=5, part="a"), [0])
        self.assertEqual(heap.strike(settled=[], number=2, key=3, part="a"), 1)
        self.assertEqual(heap.marked(settled=[], number=1, part="a"), [2])
        self.assertEqual(heap.marked(key=1, settled=[], number=1, part="a"), [])
        self.assertEqual(heap.move(settled=[], number=0, catalog=Catalog(rest="b"), part="a"), 2)
        heap.forget(number=0)
        self.assertEqual(heap.versions(part="a"), [(3, None, None), (1, None, None)])

    def test_what_changes_the_heap_returns_nothing_or_a_number(self):
        heap = Heap({"a": [1]})
        self.assertIsNone(heap.put("a", 1, 0))
        self.assertIsNone(heap.forget(0))
        self.assertEqual(heap.strike("b", 1, 0, []), 0)
        self.assertEqual(heap.move("b", BOOK, 0, []), 0)


class TestConstructor(Case):

    def test_no_rows(self):
        for heap in (Heap(), Heap(None), Heap({}), Heap({"a": []}), Heap(rows={"a": [], "b": []})):
            self.assertEqual(heap.parts(), [])
            self.assertEqual(heap.versions("a"), [])
            self.assertEqual(heap.alive("a", []), [])

    def test_rows(self):
        heap = Heap({"b": [5, -3, 0], "a": [], "c": [BIG, -BIG]})
        self.assertEqual(heap.parts(), ["b", "c"])
        self.assertEqual(heap.versions("b"), [(5, None, None), (-3, None, None), (0, None, None)])
        self.assertEqual(heap.versions("c"), [(BIG, None, None), (-BIG, None, None)])
        self.assertEqual(heap.versions("a"), [])
        self.assertEqual(heap.versions("x"), [])
        self.assertEqual(heap.alive("b", []), [-3, 0, 5])
        for name in NAMES:
            self.assertEqual(Heap({name: INTEGERS}).alive(name, []), sorted(INTEGERS))

    def test_the_same_key_in_two_parts(self):
        heap = Heap({"b": [5], "a": [5]})
        self.assertEqual([heap.parts(), heap.alive("a", []), heap.alive("b", [])], [["a", "b"], [5], [5]])

    def test_values_that_are_no_dict(self):
        for value in every_value():
            if value is not None and not isinstance(value, dict):
                self.assert_error("InvalidRows", value, Heap, value)

    def test_keys_that_are_no_names(self):
        for name in [*INTEGERS, *[name for name in NO_NAMES if isinstance(name, str)]]:
            for value in ({name: []}, {name: [1]}, {"a": [1], name: [2], "b": [3]}):
                self.assert_error("InvalidRows", value, Heap, value)

    def test_values_that_are_no_lists_of_different_integers(self):
        for wrong in [*every_value(), (1, 2), {1: 2}, [1, 1], [1, 2, 3, 1], [BIG, BIG], [-1, 0, -1]]:
            if wrong not in ([], [0, 1], [0, 1, 2]):
                value = {"a": [1], "b": wrong}
                self.assert_error("InvalidRows", value, Heap, value)

    def test_items_that_are_no_integers(self):
        for wrong in [*NAMES, *others()]:
            value = {"a": [7, wrong, 8]}
            self.assert_error("InvalidRows", value, Heap, value)

    def test_later_changes_of_lists_and_dicts_have_no_effect(self):
        rows = {"a": [1, 2], "b": [3]}
        heap = Heap(rows)
        rows["a"].append(9)
        rows["a"][0] = 8
        del rows["b"]
        rows["c"] = [1]
        self.assertEqual([heap.parts(), heap.alive("a", []), heap.alive("b", [])], [["a", "b"], [1, 2], [3]])

    def test_arguments_are_not_modified(self):
        rows = {"b": [2, 1], "a": []}
        heap = Heap(rows)
        heap.put("a", 1, 0)
        heap.strike("b", 1, 0, [])
        heap.move("b", BOOK, 0, settled := [1, 2])
        self.assertEqual([rows, list(rows), settled], [{"b": [2, 1], "a": []}, ["b", "a"], [1, 2]])


class TestVersions(Case):

    def test_versions_of_every_form(self):
        for born, dead in itertools.product([None, *NUMBERS], repeat=2):
            heap = Heap({"a": [5]}) if born is None else Heap()
            if born is not None:
                heap.put("a", 5, born)
            if dead is not None:
                self.assertEqual(heap.strike("a", 5, dead, [] if born is None else [born]), 1)
            self.assertEqual(heap.versions("a"), [(5, born, dead)])
            for settled in SETTLED:
                self.check_version(heap, born, dead, settled)

    def check_version(self, heap, born, dead, settled):
        """What [61] tells of a version of the key 5."""
        real = born is None or born in settled
        alive = real and not (dead is not None and dead in settled)
        self.assertEqual(heap.alive("a", settled), [5] if alive else [])
        self.assertEqual(heap.count("a", 5, settled), int(alive))
        self.assertEqual(heap.count("a", 6, settled), 0)
        for number in [*NUMBERS, 3]:
            marked = real and dead is not None and dead != number and dead not in settled
            pending = born is not None and born != number and born not in settled
            self.assertEqual(heap.marked("a", number, settled), [dead] if marked else [])
            self.assertEqual(heap.marked("a", number, settled, 5), [dead] if marked else [])
            self.assertEqual(heap.marked("a", number, settled, 6), [])
            expected = [dead] if marked else [born] if pending else []
            self.assertEqual(heap.pending("a", 5, number, settled), expected)
            self.assertEqual(heap.pending("a", 6, number, settled), [])
            self.assertEqual(heap.pending("b", 5, number, settled), [])

    def test_the_key_zero_is_a_key(self):
        heap = struck(struck(Heap({"a": [0, 1]}), "a", 0, 4, []), "a", 1, 2, [])
        self.assertEqual(heap.marked("a", 9, []), [2, 4])
        self.assertEqual(heap.marked("a", 9, [], 0), [4])
        self.assertEqual(heap.marked("a", 9, [], None), [2, 4])

    def test_sessions_are_ascending_and_come_once(self):
        heap = Heap()
        for number in (9, 10, 2, 9, 2, 0):
            heap.put("a", 5, number)
        self.assertEqual(heap.pending("a", 5, 7, []), [0, 2, 9, 10])
        self.assertEqual(heap.pending("a", 5, 9, [0]), [2, 10])
        self.assertEqual(heap.alive("a", [2, 9]), [5, 5, 5, 5])
        self.assertEqual(heap.count("a", 5, [2, 9, 0]), 5)
        heap.strike("a", 5, 3, [2])
        heap.strike("a", 5, 1, [10])
        self.assertEqual(heap.marked("a", 7, [2, 10]), [1, 3])
        self.assertEqual(heap.pending("a", 5, 7, [2, 10]), [0, 1, 3, 9])

    def test_large_numbers_come_behind_small_ones(self):
        heap = struck(struck(Heap({"a": [5, 6]}), "a", 5, 8, []), "a", 6, 1, [])
        self.assertEqual(heap.marked("a", 7, []), [1, 8])
        heap.put("a", 5, 16)
        heap.put("a", 5, 3)
        self.assertEqual(heap.pending("a", 5, 7, []), [3, 8, 16])

    def test_put_adds_at_the_end(self):
        heap = Heap({"a": [3]})
        heap.put("a", 1, 4)
        heap.put("b", 1, 4)
        heap.put("a", 1, 0)
        self.assertEqual(heap.versions("a"), [(3, None, None), (1, 4, None), (1, 0, None)])
        self.assertEqual(heap.versions("b"), [(1, 4, None)])
        self.assertEqual(heap.parts(), ["a", "b"])

    def test_strike_takes_alive_versions_alone(self):
        heap = Heap({"a": [1, 2]})
        heap.put("a", 1, 0)
        heap.put("a", 1, 5)
        self.assertEqual(heap.strike("a", 1, 7, [5]), 2)
        self.assertEqual(heap.versions("a"), [(1, None, 7), (2, None, None), (1, 0, None), (1, 5, 7)])
        self.assertEqual(heap.strike("a", 1, 8, [5, 7]), 0)
        self.assertEqual(heap.strike("a", 1, 8, [5]), 2)
        self.assertEqual(heap.versions("a"), [(1, None, 8), (2, None, None), (1, 0, None), (1, 5, 8)])
        self.assertEqual(heap.strike("a", 3, 8, []), 0)
        self.assertEqual(heap.strike("b", 1, 8, []), 0)
        self.assertEqual(heap.parts(), ["a"])

    def test_move_to_the_same_part_to_another_one_and_to_none(self):
        heap = Heap({"a": [5, 1, 3, 0]})
        catalog = Catalog({"a": (0, 1), "b": (1, 2), "c": (5, 9)})
        self.assertEqual(heap.move("a", catalog, 4, []), 2)
        self.assertEqual(heap.versions("a"), [(5, None, 4), (1, None, 4), (3, None, None), (0, None, None)])
        self.assertEqual([heap.versions("b"), heap.versions("c")], [[(1, 4, None)], [(5, 4, None)]])
        self.assertEqual(heap.alive("a", []), [0, 1, 3, 5])
        self.assertEqual([heap.alive("a", [4]), heap.alive("b", [4]), heap.alive("c", [4])], [[0, 3], [1], [5]])

    def test_move_takes_alive_versions_alone(self):
        heap = struck(Heap({"a": [1, 2]}), "a", 1, 0, [])
        heap.put("a", 3, 1)
        heap.put("a", 4, 2)
        self.assertEqual(heap.move("a", Catalog(rest="b"), 5, [0, 2]), 2)
        self.assertEqual(heap.versions("a"), [(1, None, 0), (2, None, 5), (3, 1, None), (4, 2, 5)])
        self.assertEqual(heap.versions("b"), [(2, 5, None), (4, 5, None)])

    def test_move_goes_in_the_order_of_the_versions(self):
        heap = Heap({"a": [9, 2, 7], "b": [1]})
        self.assertEqual(heap.move("a", Catalog(rest="b"), 0, []), 3)
        self.assertEqual(heap.versions("b"), [(1, None, None), (9, 0, None), (2, 0, None), (7, 0, None)])

    def test_the_same_key_twice_is_moved_twice(self):
        heap = Heap({"a": [1]})
        heap.put("a", 1, 0)
        self.assertEqual(heap.move("a", Catalog(rest="b"), 3, [0]), 2)
        self.assertEqual(heap.alive("b", [3]), [1, 1])

    def test_forget_what_a_session_put_and_struck(self):
        heap = Heap({"a": [1, 2]})
        heap.put("a", 3, 0)
        heap.put("b", 4, 1)
        heap.strike("a", 1, 1, [])
        heap.strike("a", 3, 1, [0])
        heap.strike("a", 2, 2, [])
        heap.forget(1)
        self.assertEqual(heap.versions("a"), [(1, None, None), (2, None, 2), (3, 0, None)])
        self.assertEqual([heap.parts(), heap.versions("b")], [["a"], []])
        heap.forget(0)
        self.assertEqual(heap.versions("a"), [(1, None, None), (2, None, 2)])
        heap.forget(5)
        self.assertEqual(heap.versions("a"), [(1, None, None), (2, None, 2)])

    def test_forget_a_session_that_put_and_struck_the_same_version(self):
        heap = Heap({"a": [1]})
        heap.put("a", 1, 0)
        heap.strike("a", 1, 0, [0])
        heap.forget(0)
        self.assertEqual(heap.versions("a"), [(1, None, None)])

    def test_forget_a_move(self):
        heap = Heap({"a": [5, 1], "b": [7]})
        heap.move("a", Catalog(rest="b"), 0, [])
        heap.forget(0)
        self.assertEqual(heap, Heap({"a": [5, 1], "b": [7]}))
        self.assertEqual(heap.versions("b"), [(7, None, None)])

    def test_lists_that_were_returned_may_be_changed(self):
        heap = Heap({"a": [1]})
        heap.put("a", 2, 0)
        for row in (
            heap.parts(), heap.versions("a"), heap.alive("a", [0]), heap.pending("a", 2, 1, []), heap.marked("a", 1,
                []),
        ):
            row.append("x")
        self.assertEqual(heap.versions("a"), [(1, None, None), (2, 0, None)])
        self.assertEqual([heap.parts(), heap.alive("a", [0]), heap.pending("a", 2, 1, [])], [["a"], [1, 2], [0]])


class TestManyDeeds(Case):

    def test_whatever_is_done_agrees_with_the_words_of_the_document(self):
        for seed in range(60):
            chance = random.Random(seed)
            rows = {"a": chance.sample(range(5), 2), "b": chance.sample(range(5), 2)}
            heap, plain = Heap(rows), Plain(rows)
            for _ in range(12):
                self.do_something(chance, heap, plain)
                self.check_same(heap, plain)

    def do_something(self, chance, heap, plain):
        """Do the same in both, which returns the same."""
        part, key, number = chance.choice("abc"), chance.randrange(5), chance.choice(NUMBERS)
        settled = chance.choice(SETTLED)
        name, arguments = chance.choice([
            ("put", (part, key, number)), ("strike", (part, key, number, settled)), ("forget", (number,)),
            ("move", (part, BOOK, number, settled)), ("strike", (part, key, number, settled)),
        ])
        self.assertEqual(getattr(heap, name)(*arguments), getattr(plain, name)(*arguments))

    def check_same(self, heap, plain):
        """Both tell the same."""
        self.assertEqual(heap.parts(), sorted(part for part in plain.rows if plain.rows[part]))
        for part, settled in itertools.product("abc", SETTLED):
            rows = plain.of(part)
            self.assertEqual(heap.versions(part), [tuple(version) for version in rows])
            alive = sorted(version[0] for version in rows if plain.alive(version, settled))
            self.assertEqual(heap.alive(part, settled), alive)
            for key in range(5):
                self.assertEqual(heap.count(part, key, settled), alive.count(key))
            for number in NUMBERS:
                self.assertEqual(heap.marked(part, number, settled), plain.told_marked(part, number, settled))
                for key in range(5):
                    found = heap.pending(part, key, number, settled), heap.marked(part, number, settled, key)
                    expected = plain.told_pending(part, key, number, settled)
                    self.assertEqual(found, (expected, plain.told_marked(part, number, settled, key)))


class TestCopies(Case):

    def test_copies_go_on_by_themselves(self):
        heap = Heap({"a": [1, 2]})
        heap.put("a", 3, 0)
        other = heap.copy()
        self.assertIs(type(other), Heap)
        self.assertEqual(other, heap)
        self.assertEqual(other.versions("a"), heap.versions("a"))
        before = heap.versions("a")
        other.put("a", 4, 1)
        other.put("b", 4, 1)
        other.strike("a", 1, 1, [])
        other.move("a", Catalog(rest="c"), 2, [])
        other.forget(0)
        self.assertEqual([heap.versions("a"), heap.parts()], [before, ["a"]])
        after = other.versions("a")
        heap.forget(0)
        heap.strike("a", 2, 5, [])
        self.assertEqual(other.versions("a"), after)

    def test_equal_heaps_whose_rows_came_in_another_order(self):
        for one, other in itertools.product(itertools.permutations([1, 2, 3]), repeat=2):
            self.check_equal(Heap({"a": list(one), "b": [7]}), Heap({"b": [7], "a": list(other)}))
        deeds = [("a", 1, 0), ("a", 1, 1), ("a", 2, 0), ("b", 1, 0), ("a", 1, 0)]
        for order in itertools.permutations(deeds):
            heap, same = Heap({"a": [1]}), Heap({"a": [1]})
            for deed in deeds:
                same.put(*deed)
            for deed in order:
                heap.put(*deed)
            self.check_equal(heap, same)

    def test_a_part_without_versions_makes_no_difference(self):
        heap = Heap({"a": [1], "b": []})
        heap.put("c", 1, 0)
        heap.forget(0)
        heap.strike("d", 1, 0, [])
        self.check_equal(heap, Heap({"a": [1]}))
        self.check_equal(Heap({"a": []}), Heap())

    def check_equal(self, one, other):
        """Both are equal and listed alike."""
        self.assertIs(one == other, True)
        self.assertIs(one != other, False)
        self.assertIs(type(one.listed()), tuple)
        self.assertEqual(one.listed(), other.listed())
        self.assertEqual(hash(one.listed()), hash(other.listed()))

    def test_heaps_that_differ(self):
        made = [
            Heap(), Heap({"a": [1]}), Heap({"b": [1]}), Heap({"a": [2]}), Heap({"a": [1, 2]}), Heap({"a": [1],
                "b": [1]}),
            struck(Heap({"a": [1]}), "a", 1, 0, []), struck(Heap({"a": [1]}), "a", 1, 1, []), Heap({"a": [-1]}),
        ]
        for deeds in ([("a", 1, 0)], [("a", 1, 1)], [("a", 1, 0), ("a", 1, 0)], [("a", 1, 0), ("a", 1, 1)]):
            heap = Heap()
            for deed in deeds:
                heap.put(*deed)
            made.extend([heap, struck(heap.copy(), "a", 1, 0, [0]), struck(heap.copy(), "a", 1, 1, [0])])
        texts = [sorted((part, sorted(map(str, heap.versions(part)))) for part in heap.parts()) for heap in made]
        for (one, told), (other, told_other) in itertools.product(zip(made, texts), repeat=2):
            self.assertIs(one == other, told == told_other)
            self.assertIs(one.listed() == other.listed(), told == told_other)
        self.assertGreater(len(set(map(str, texts))), 15)

    def test_no_heap_equals_a_value_of_another_kind(self):
        heap = Heap({"q": [1]})
        for value in [*every_value(), {"q": [1]}, heap.listed(), heap.versions("q")]:
            self.assertIs(heap == value, False)
            self.assertIs(value == heap, False)
            self.assertIs(heap != value, True)


if __name__ == "__main__":
    unittest.main()
