"""[1] and [2]: SMALL TYPE, TYPE, the VALUES of a TYPE and its CELLS."""

import copy
import unittest
from itertools import combinations, product

from odd_things import odd_things
from stairwright.errors import BadType, StairError
from stairwright.types import cells_of, is_small, is_type, is_value, values_of

CARRIERS = (("jobs", ("c", "a", "b")), ("spots", ("left",)), ("rooms", ("r4", "r3", "r2", "r1")))
JOBS = ("c", "a", "b")
ROOMS = ("r4", "r3", "r2", "r1")

SMALL = [("num", number) for number in range(1, 16)] + [("truth",)] + [("one", name) for name, _ in CARRIERS]
SOMES = [("some", name) for name, _ in CARRIERS]
MAPS = [("map", name, small) for name, _ in CARRIERS for small in SMALL]

NO_TYPES = [
    ("num", 0), ("num", 16), ("num", -1), ("num", 10 ** 3999), ("num", -(10 ** 3999)), ("num", True), ("num", False),
    ("num", None), ("num", "3"), ("num", (3,)), ("num", [3]), ("num",), ("num", 3, 4), ("num", 3, "jobs"),
    ("truth", 1), ("truth", None), ("truth", ()), ("truth", "jobs"), ("truth", True),
    ("one",), ("one", "none"), ("one", "a"), ("one", "Jobs"), ("one", ""), ("one", None), ("one", 0), ("one", True),
    ("one", b"jobs"), ("one", ("jobs",)), ("one", ["jobs"]), ("one", {}), ("one", "jobs", "jobs"), ("one", CARRIERS[0]),
    ("some",), ("some", "none"), ("some", "a"), ("some", None), ("some", 1), ("some", ("jobs",)), ("some", ["jobs"]),
    ("some", "jobs", "jobs"), ("some", "jobs", ("truth",)), ("some", ("one", "jobs")),
    ("map",), ("map", "jobs"), ("map", "jobs", ("truth",), ()), ("map", "none", ("truth",)), ("map", "a", ("truth",)),
    ("map", None, ("truth",)), ("map", ["jobs"], ("truth",)), ("map", ("truth",), "jobs"), ("map", "jobs", "truth"),
    ("map", "jobs", None), ("map", "jobs", ["truth"]), ("map", "jobs", ()), ("map", "jobs", "jobs"),
    ("map", "jobs", ("num", 0)), ("map", "jobs", ("num", 16)), ("map", "jobs", ("num", True)),
    ("map", "jobs", ("num",)),
    ("map", "jobs", ("truth", ())), ("map", "jobs", ("one", "none")), ("map", "jobs", ("some", "jobs")),
    ("map", "jobs", ("map", "jobs", ("truth",))), ("map", "jobs", ["num", 3]),
    ["num", 3], ["truth"], ["one", "jobs"], ["some", "jobs"], ["map", "jobs", ("truth",)],
    (), "num", "truth", "one", ("Num", 3), ("num ", 3), ("", 3), ("number", 3), ("set", "jobs"), ("jobs",),
    (None, 3), (True,), (1, 3), (b"num", 3), (["num"], 3), ({}, 3), (("num", 3),), (("truth",),), ("yes",), ("no",),
]


def somes_of(members):
    return [part for many in range(len(members) + 1) for part in combinations(members, many)]


class TypeTest(unittest.TestCase):
    def test_small_types(self):
        for kind in SMALL:
            with self.subTest(kind):
                self.assertIs(is_small(CARRIERS, kind), True)
                self.assertIs(is_type(CARRIERS, kind), True)

    def test_types_that_are_not_small(self):
        for kind in SOMES + MAPS:
            with self.subTest(kind):
                self.assertIs(is_small(CARRIERS, kind), False)
                self.assertIs(is_type(CARRIERS, kind), True)

    def test_what_is_none(self):
        for thing in NO_TYPES + odd_things() + [0, 1, True, False, "a", ("jobs", ("a",))]:
            with self.subTest(repr(thing)[:80]):
                self.assertIs(is_small(CARRIERS, thing), False)
                self.assertIs(is_type(CARRIERS, thing), False)

    def test_without_sets(self):
        for kind in [("num", 1), ("truth",)]:
            self.assertIs(is_small((), kind), True)
            self.assertIs(is_type((), kind), True)
        for kind in [("one", "jobs"), ("some", "jobs"), ("map", "jobs", ("truth",))]:
            self.assertIs(is_small((), kind), False)
            self.assertIs(is_type((), kind), False)

    def test_a_set_called_like_a_word(self):
        carriers = (("truth", ("num",)), ("map", ("one",)))
        for kind in [("truth",), ("one", "truth"), ("one", "map")]:
            self.assertIs(is_small(carriers, kind), True)
        for kind in [("some", "map"), ("map", "map", ("one", "truth"))]:
            self.assertIs(is_type(carriers, kind), True)
        for kind in [("one", "num"), ("truth", "truth"), ("map", "truth", "truth"), ("num", "map")]:
            self.assertIs(is_type(carriers, kind), False)

    def test_by_the_names_of_their_arguments(self):
        self.assertIs(is_small(thing=("truth",), carriers=CARRIERS), True)
        self.assertIs(is_small(thing=("some", "jobs"), carriers=CARRIERS), False)
        self.assertIs(is_type(thing=("some", "jobs"), carriers=CARRIERS), True)
        self.assertIs(is_type(thing=("some", "none"), carriers=CARRIERS), False)

    def test_what_was_handed_in_is_as_it_was(self):
        for thing in NO_TYPES:
            ahead = copy.deepcopy(thing)
            is_small(CARRIERS, thing)
            is_type(CARRIERS, thing)
            self.assertEqual(thing, ahead)


class ValueTest(unittest.TestCase):
    def assert_values(self, kind, values, others):
        for thing in values:
            with self.subTest(kind=kind, value=thing):
                self.assertIs(is_value(CARRIERS, kind, thing), True)
        for thing in others:
            with self.subTest(kind=kind, none=repr(thing)[:80]):
                self.assertIs(is_value(CARRIERS, kind, thing), False)

    def test_of_num(self):
        for most in range(1, 16):
            self.assert_values(("num", most), range(most + 1), [-1, most + 1, most + 2, 10 ** 3999, True, False])
        self.assert_values(("num", 15), [0, 1, 15], ["0", "", (0,), (), [], b"1", None, "yes", "a"])

    def test_of_truth(self):
        self.assert_values(("truth",), [True, False], [0, 1, -1, 2, None, "yes", "no", "", (), (True,), [True]])

    def test_of_one(self):
        others = ["left", "jobs", "d", "", "ca", "A", None, 0, True, ("a",), ["a"], b"a", JOBS, {"a": 1}]
        self.assert_values(("one", "jobs"), JOBS, others)
        self.assert_values(("one", "spots"), ["left"], ["a", "lef", "spots", "right"])

    def test_of_some(self):
        for name, members in CARRIERS:
            good = somes_of(members)
            names = members + ("left" if name != "spots" else "a", name)
            tried = [thing for many in range(6) for thing in product(names, repeat=many)]
            self.assert_values(("some", name), good, [thing for thing in tried if thing not in good])

    def test_of_some_of_other_kinds(self):
        others = [["c", "a"], [], "c", "cab", "", {"c": True}, None, 0, True, (True, False, True), (None,), (0,),
                  (("c",),), (["c"],), ({},), (b"c",), ("c", None), ("c", "a", "b", "c"), tuple(["c"] * 20000)]
        self.assert_values(("some", "jobs"), [(), ("c",), ("c", "b"), JOBS], others)

    def test_of_map(self):
        tried = {
            ("num", 3): [-1, 0, 3, 4, True, False, "c", None],
            ("truth",): [True, False, 0, 1, None, "yes"],
            ("one", "rooms"): ["r4", "r1", "a", "rooms", 0, True, ("r1",)],
        }
        for small, parts in tried.items():
            good = [part for part in parts if is_value(CARRIERS, small, part)]
            self.assertEqual(len(good), 2)
            for name, members in CARRIERS[:2]:
                things = list(product(parts, repeat=len(members)))
                self.assert_map_values(("map", name, small), things, good)

    def assert_map_values(self, kind, things, good):
        for thing in things:
            # By `is`, as 1 and True are the same by `==`.
            fits = all(any(part is other for other in good) for part in thing)
            with self.subTest(kind=kind, thing=thing):
                self.assertIs(is_value(CARRIERS, kind, thing), fits)

    def test_of_map_by_how_many(self):
        for small, part in [(("num", 3), 3), (("truth",), False), (("one", "jobs"), "a")]:
            for name, members in CARRIERS:
                for many in range(7):
                    fits = many == len(members)
                    self.assertIs(is_value(CARRIERS, ("map", name, small), (part,) * many), fits)
                    self.assertIs(is_value(CARRIERS, ("map", name, small), [part] * many), False)

    def test_of_map_of_other_kinds(self):
        others = ["cab", {"c": 1, "a": 1, "b": 1}, None, 111, True, ((1, 1, 1),), ("c", "a", "b"), (1, 1, [1]),
                  (1, (1,), 1), ({}, 1, 1), (("c", 1), ("a", 1), ("b", 1)), tuple([1] * 20000)]
        self.assert_values(("map", "jobs", ("num", 1)), [(0, 0, 0), (1, 1, 1), (0, 1, 0)], others)

    def test_things_of_any_kind(self):
        for kind in SMALL + SOMES + MAPS:
            self.assert_values(kind, [], odd_things())

    def test_by_the_names_of_its_arguments(self):
        self.assertIs(is_value(thing=3, kind=("num", 3), carriers=CARRIERS), True)
        self.assertIs(is_value(thing=4, kind=("num", 3), carriers=CARRIERS), False)

    def test_what_was_handed_in_is_as_it_was(self):
        for kind, thing in [(("some", "jobs"), ["b", "a", "c"]), (("map", "jobs", ("truth",)), [True, [False], {}])]:
            ahead = copy.deepcopy(thing)
            self.assertIs(is_value(CARRIERS, kind, thing), False)
            self.assertEqual(thing, ahead)


class ValuesOfTest(unittest.TestCase):
    def assert_told(self, kind, values):
        told = values_of(CARRIERS, kind)
        self.assertIs(type(told), tuple)
        self.assertEqual(told, values)
        self.assertEqual([type(value) for value in told], [type(value) for value in values])

    def test_of_num(self):
        self.assert_told(("num", 1), (0, 1))
        self.assert_told(("num", 15), (0, 1, 2, 3, 4, 5, 6, 7, 8, 9, 10, 11, 12, 13, 14, 15))
        for most in range(1, 16):
            self.assert_told(("num", most), tuple(range(most + 1)))

    def test_of_truth(self):
        self.assert_told(("truth",), (False, True))

    def test_of_one(self):
        for name, members in CARRIERS:
            self.assert_told(("one", name), members)

    def test_all_of_them_are_values(self):
        for kind in SMALL:
            for value in values_of(CARRIERS, kind):
                self.assertIs(is_value(CARRIERS, kind, value), True)

    def test_of_anything_else(self):
        for thing in SOMES + MAPS + NO_TYPES + odd_things() + [0, 1, True, False, "a"]:
            with self.subTest(repr(thing)[:80]), self.assertRaises(StairError) as caught:
                values_of(CARRIERS, thing)
            self.assertIs(type(caught.exception), BadType)

    def test_by_the_names_of_its_arguments(self):
        self.assertEqual(values_of(kind=("one", "jobs"), carriers=CARRIERS), JOBS)
        with self.assertRaises(BadType):
            values_of(kind=("some", "jobs"), carriers=CARRIERS)


class CellsTest(unittest.TestCase):
    def assert_told(self, kind, cells):
        told = cells_of(CARRIERS, "x", kind)
        self.assertIs(type(told), tuple)
        self.assertEqual(told, cells)

    def test_of_small_types(self):
        for kind in SMALL:
            self.assert_told(kind, ((("x", None), kind),))

    def test_of_some(self):
        truth = ("truth",)
        self.assert_told(("some", "jobs"), ((("x", "c"), truth), (("x", "a"), truth), (("x", "b"), truth)))
        self.assert_told(("some", "spots"), ((("x", "left"), truth),))
        self.assert_told(("some", "rooms"), tuple([(("x", room), truth) for room in ROOMS]))

    def test_of_map(self):
        for small in SMALL:
            self.assert_told(("map", "jobs", small), ((("x", "c"), small), (("x", "a"), small), (("x", "b"), small)))
            self.assert_told(("map", "spots", small), ((("x", "left"), small),))
            self.assert_told(("map", "rooms", small), tuple([(("x", room), small) for room in ROOMS]))

    def test_of_other_names(self):
        # In GOALS a NAME may have one "'" behind.
        self.assertEqual(cells_of(CARRIERS, "load'", ("num", 3)), ((("load'", None), ("num", 3)),))
        self.assertEqual(cells_of(CARRIERS, "load'", ("some", "spots")), ((("load'", "left"), ("truth",)),))

    def test_without_sets(self):
        self.assertEqual(cells_of((), "x", ("truth",)), ((("x", None), ("truth",)),))

    def test_by_the_names_of_its_arguments(self):
        told = cells_of(kind=("map", "spots", ("num", 3)), name="at", carriers=CARRIERS)
        self.assertEqual(told, ((("at", "left"), ("num", 3)),))


if __name__ == "__main__":
    unittest.main()
