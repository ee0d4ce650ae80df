"""[1] and [2]: NAME, CARRIERS, and the ELEMENTS of a SET."""

import copy
import unittest

from odd_things import deep_dict, deep_list, deep_tuple, odd_things
from stairwright.errors import BadCarriers
from stairwright.types import elements_of, is_carriers, is_name, need_carriers

JOBS = ("jobs", ("a", "b", "c"))
SPOTS = ("spots", ("left", "right"))
ROOMS = ("rooms", ("hall",))

GOOD_CARRIERS = [
    (),
    (JOBS,),
    (JOBS, SPOTS),
    (JOBS, SPOTS, ROOMS),
    (("s", ("a",)),),
    (("s", ("a", "b", "c", "d")),),
    (("s", ("d", "c", "b", "a")), ("t", ("x4", "x3", "x2", "x1")), ("u", ("y1", "y2", "y3", "y4"))),
    (("num", ("truth", "one", "some", "map")),),
]

BAD_CARRIERS = {
    "four sets": (JOBS, SPOTS, ROOMS, ("more", ("z",))),
    "no element": (("s", ()),),
    "five elements": (("s", ("a", "b", "c", "d", "e")),),
    "no element in the last set": (JOBS, SPOTS, ("s", ())),
    "an element twice": (("s", ("a", "b", "a")),),
    "a set twice": (("s", ("a",)), ("s", ("b",))),
    "the very set twice": (JOBS, JOBS),
    "an element called like its set": (("s", ("a", "s")),),
    "an element called like a set behind": (("s", ("t",)), ("t", ("a",))),
    "an element called like a set ahead": (("s", ("a",)), ("t", ("s",))),
    "an element of two sets": (("s", ("a", "b")), ("t", ("c", "a"))),
    "a list of sets": [JOBS],
    "a list for a set": (["jobs", ("a", "b")],),
    "a list of elements": (("jobs", ["a", "b"]),),
    "a dict": {"jobs": ("a", "b")},
    "a dict of elements": (("jobs", {"a": 1}),),
    "a text of elements": (("jobs", "ab"),),
    "a text of two signs for a set": ("ab",),
    "a set alone": JOBS,
    "a set without elements told": (("jobs",),),
    "a set with more": (("jobs", ("a",), ()),),
    "an empty tuple for a set": ((),),
    "None for a set": (None,),
    "a number for a set": (3,),
    "a truth for a set's name": ((True, ("a",)),),
    "a number for a set's name": ((1, ("a",)),),
    "bytes for a set's name": ((b"jobs", ("a",)),),
    "a tuple for a set's name": ((("jobs",), ("a",)),),
    "a list for a set's name": ((["jobs"], ("a",)),),
    "a truth for an element": (("jobs", ("a", False)),),
    "a number for an element": (("jobs", (0, "a")),),
    "None for an element": (("jobs", (None,)),),
    "a list for an element": (("jobs", ("a", ["b"])),),
    "a dict for an element": (("jobs", ({}, "a")),),
    "a set's name that is none": (("Jobs", ("a",)),),
    "a set called yes": (("yes", ("a",)),),
    "an element called no": (("jobs", ("no",)),),
    "an element of nine signs": (("jobs", ("abcdefghi",)),),
    "a deep tuple": (deep_tuple(149),),
    "a deep list": (("jobs", deep_list(148)),),
    "a deep dict": (("jobs", (deep_dict(147),)),),
    "many sets": tuple([JOBS] * 5000),
    "many elements": (("jobs", tuple([f"e{number}" for number in range(9000)])),),
}


class NameTest(unittest.TestCase):
    def test_names(self):
        for name in ("a", "z", "a0", "z9", "jobs", "abcdefgh", "a1234567", "x9y8z7", "yess", "ye", "noo", "n",
                     "num", "truth", "start", "none"):
            with self.subTest(name):
                self.assertIs(is_name(name), True)

    def test_each_sign(self):
        letters, figures = "abcdefghijklmnopqrstuvwxyz", "0123456789"
        for code in range(0, 400):
            sign = chr(code)
            with self.subTest(sign):
                self.assertIs(is_name(sign), sign in letters)
                self.assertIs(is_name("a" + sign), sign in letters + figures)
                self.assertIs(is_name("a" + sign + "b"), sign in letters + figures)

    def test_how_many_signs(self):
        self.assertIs(is_name(""), False)
        for many in range(1, 9):
            self.assertIs(is_name("b" * many), True)
        for many in (9, 10, 100, 20000):
            self.assertIs(is_name("b" * many), False)

    def test_texts_that_are_none(self):
        for text in ("yes", "no", "0", "1a", "9", "A", "Abc", "aB", "abcdefgH", "a_b", "_a", "a b", " a", "a ", "a\n",
                     "\n", "a'", "a-b", "a.b", "(a)", "abcdefghi", "yes yes"):
            with self.subTest(text):
                self.assertIs(is_name(text), False)

    def test_things_of_any_kind(self):
        for thing in odd_things() + [0, 1, True, False, ("a",), ("jobs", ("a",)), ("truth",)]:
            self.assertIs(is_name(thing), False)

    def test_by_the_names_of_its_arguments(self):
        self.assertIs(is_name(thing="jobs"), True)
        self.assertIs(is_name(thing="Jobs"), False)


class CarriersTest(unittest.TestCase):
    def test_carriers(self):
        for carriers in GOOD_CARRIERS:
            with self.subTest(carriers):
                self.assertIs(is_carriers(carriers), True)
                self.assertIsNone(need_carriers(carriers))

    def test_what_is_none(self):
        for why, thing in BAD_CARRIERS.items():
            with self.subTest(why):
                self.assertIs(is_carriers(thing), False)
                self.assert_refused(thing)

    def test_things_of_any_kind(self):
        for thing in odd_things() + [0, 1, True, False, "a", "jobs", ("a",), ("truth",), (True,)]:
            self.assertIs(is_carriers(thing), False)
            self.assert_refused(thing)

    def assert_refused(self, thing):
        with self.assertRaises(BadCarriers) as caught:
            need_carriers(thing)
        self.assertIs(type(caught.exception), BadCarriers)
        self.assertIsInstance(caught.exception, ValueError)

    def test_by_the_names_of_their_arguments(self):
        self.assertIs(is_carriers(thing=(JOBS,)), True)
        self.assertIs(is_carriers(thing=[JOBS]), False)
        self.assertIsNone(need_carriers(carriers=(JOBS,)))
        with self.assertRaises(BadCarriers):
            need_carriers(carriers=[JOBS])

    def test_what_was_handed_in_is_as_it_was(self):
        for thing in BAD_CARRIERS.values():
            ahead = copy.deepcopy(thing)
            is_carriers(thing)
            self.assert_refused(thing)
            self.assertEqual(thing, ahead)


class ElementsTest(unittest.TestCase):
    def test_of_each_set(self):
        carriers = (JOBS, SPOTS, ROOMS)
        self.assertEqual(elements_of(carriers, "jobs"), ("a", "b", "c"))
        self.assertEqual(elements_of(carriers, "spots"), ("left", "right"))
        self.assertEqual(elements_of(carriers, "rooms"), ("hall",))

    def test_in_their_own_order(self):
        self.assertEqual(elements_of((("s", ("d", "b", "c", "a")),), "s"), ("d", "b", "c", "a"))

    def test_by_the_names_of_its_arguments(self):
        told = elements_of(name="spots", carriers=(JOBS, SPOTS))
        self.assertEqual(told, ("left", "right"))
        self.assertIs(type(told), tuple)


if __name__ == "__main__":
    unittest.main()
