"""[4]: the WORTH of an EXPRESSION at a STATE."""

import copy
import unittest

from stairwright.worths import worth
from words import NO, YES, elem, nested, num, var

CARRIERS = (("jobs", ("c", "a", "b")), ("spots", ("left", "right")), ("rooms", ("hall",)))
JOB, SPOT = ("one", "jobs"), ("one", "spots")
STATE = {"n": 5, "p": True, "q": False, "j": "a", "k": "right", "s": ("c", "b"), "t": (), "u": ("a", "b"),
         "mn": (3, 0, 2), "mp": (True, False, True), "mk": ("left", "right", "left"), "w": ("left",)}
HUGE = 10 ** 3000


class WorthTest(unittest.TestCase):
    def assert_worth(self, expression, told, **changes):
        with self.subTest(expression):
            found = worth(CARRIERS, expression, {**STATE, **changes})
            self.assertEqual(found, told)
            self.assertIs(type(found), type(told))
            if isinstance(told, tuple):
                self.assertEqual([type(part) for part in found], [type(part) for part in told])

    def assert_worths(self, table):
        for expression, told in table:
            self.assert_worth(expression, told)

    def test_bare_words(self):
        self.assert_worths([
            (num(0), 0), (num(99), 99), (YES, True), (NO, False), (elem("a"), "a"), (elem("hall"), "hall"),
            (("none", "jobs"), ()), (("every", "jobs"), ("c", "a", "b")), (("every", "rooms"), ("hall",)),
            (var("n"), 5), (var("p"), True), (var("j"), "a"), (var("s"), ("c", "b")), (var("mn"), (3, 0, 2)),
        ])

    def test_numbers(self):
        self.assert_worths([
            (("add", var("n"), num(3)), 8), (("sub", num(3), var("n")), -2), (("mul", var("n"), num(99)), 495),
            (("mul", ("sub", num(0), num(7)), num(3)), -21), (("mul", num(0), var("n")), 0),
            (("less", var("n"), num(5)), False), (("less", num(4), var("n")), True),
            (("less", var("n"), num(4)), False),
            (("most", var("n"), num(5)), True), (("most", num(6), var("n")), False), (("most", num(4), var("n")), True),
            (("less", ("sub", num(0), num(1)), num(0)), True),
        ])

    def test_numbers_without_bounds(self):
        self.assert_worth(("add", var("n"), num(1)), HUGE + 1, n=HUGE)
        self.assert_worth(("sub", num(1), var("n")), 1 - HUGE, n=HUGE)
        self.assert_worth(("mul", var("n"), var("n")), HUGE * HUGE, n=HUGE)
        self.assert_worth(("less", var("n"), num(0)), True, n=-HUGE)
        self.assert_worth(("at", var("mn"), elem("a")), -4, mn=(0, -4, HUGE))
        self.assert_worth(("put", var("mn"), elem("c"), ("sub", num(0), num(9))), (-9, -4, HUGE), mn=(0, -4, HUGE))
        power = var("n")
        for _ in range(29):
            power = ("mul", power, var("n"))
        self.assert_worth(power, 15 ** 30, n=15)

    def test_same(self):
        self.assert_worths([
            (("same", var("n"), num(5)), True), (("same", num(4), var("n")), False), (("same", var("p"), YES), True),
            (("same", var("p"), var("q")), False), (("same", var("q"), NO), True),
            (("same", var("j"), elem("a")), True),
            (("same", var("j"), elem("b")), False), (("same", var("s"), ("none", "jobs")), False),
            (("same", var("t"), ("none", "jobs")), True), (("same", var("u"),
                                                            ("but", ("every", "jobs"), ("just", elem("c")))), True),
            (("same", var("mn"), var("mn")), True), (("same", var("mn"), ("all", "jobs", num(3))), False),
            (("same", var("mk"), ("put", var("mk"), elem("a"), elem("right"))), True),
        ])

    def test_truths(self):
        for one in (YES, NO):
            self.assert_worth(("not", one), one == NO)
            for other in (YES, NO):
                self.assert_worth(("and", one, other), one == YES and other == YES)
                self.assert_worth(("or", one, other), one == YES or other == YES)
                self.assert_worth(("then", one, other), one == NO or other == YES)

    def test_if(self):
        self.assert_worths([
            (("if", var("p"), num(1), num(2)), 1), (("if", var("q"), num(1), num(2)), 2),
            (("if", var("q"), YES, NO), False),
            (("if", var("p"), var("s"), var("u")), ("c", "b")), (("if", var("q"), elem("a"), elem("b")), "b"),
            (("if", var("p"), var("mn"), ("all", "jobs", num(0))), (3, 0, 2)),
        ])

    def test_somes_in_the_order_of_elements(self):
        self.assert_worths([
            (("both", var("s"), var("u")), ("b",)), (("both", var("s"), ("every", "jobs")), ("c", "b")),
            (("both", var("s"), var("t")), ()), (("either", var("u"), var("s")), ("c", "a", "b")),
            (("either", var("s"), var("u")), ("c", "a", "b")), (("either", var("u"), var("t")), ("a", "b")),
            (("either", var("t"), ("just", elem("b"))), ("b",)),
            (("either", ("just", elem("b")), ("just", elem("c"))), ("c", "b")),
            (("either", var("t"), var("t")), ()), (("but", var("s"), var("u")), ("c",)),
            (("but", var("u"), var("s")), ("a",)),
            (("but", ("every", "jobs"), var("t")), ("c", "a", "b")), (("but", var("t"), var("s")), ()),
            (("just", var("j")), ("a",)), (("just", var("k")), ("right",)),
            (("either", var("w"), ("just", elem("right"))), ("left", "right")),
            (("count", var("s")), 2), (("count", var("t")), 0), (("count", ("every", "jobs")), 3),
        ])

    def test_in_and_within(self):
        self.assert_worths([
            (("in", var("j"), var("s")), False), (("in", var("j"), var("u")), True),
            (("in", elem("c"), var("s")), True),
            (("in", elem("c"), var("t")), False), (("within", var("t"), var("s")), True),
            (("within", var("t"), var("t")), True),
            (("within", var("s"), var("t")), False), (("within", var("s"), var("u")), False),
            (("within", ("just", elem("b")), var("u")), True), (("within", var("u"), ("every", "jobs")), True),
            (("within", ("every", "jobs"), var("u")), False), (("within", var("u"), var("u")), True),
        ])

    def test_maps(self):
        self.assert_worths([
            (("all", "jobs", var("n")), (5, 5, 5)), (("all", "spots", NO), (False, False)),
            (("all", "rooms", var("j")), ("a",)), (("at", var("mn"), elem("c")), 3), (("at", var("mn"), var("j")), 0),
            (("at", var("mp"), elem("b")), True), (("at", var("mk"), var("j")), "right"),
            (("put", var("mn"), elem("c"), num(99)), (99, 0, 2)), (("put", var("mn"), elem("a"), num(99)), (3, 99, 2)),
            (("put", var("mn"), elem("b"), num(99)), (3, 0, 99)),
            (("put", var("mp"), var("j"), YES), (True, True, True)),
            (("put", ("put", var("mn"), elem("a"), num(1)), elem("a"), num(2)), (3, 2, 2)),
            (("at", ("put", var("mk"), elem("b"), var("k")), elem("b")), "right"),
        ])

    def test_each_and_any_over_each_small_type(self):
        for most in range(1, 16):
            self.assert_worth(("each", "x", ("num", most), ("most", var("x"), num(7))), most <= 7)
            self.assert_worth(("any", "x", ("num", most), ("same", var("x"), num(7))), most >= 7)
            self.assert_worth(("each", "x", ("num", most), ("less", ("sub", num(0), num(1)), var("x"))), True)
        self.assert_worths([
            (("any", "x", ("num", 3), ("less", var("x"), num(0))), False),
            (("each", "x", ("truth",), var("x")), False), (("any", "x", ("truth",), var("x")), True),
            (("any", "x", ("truth",), ("not", var("x"))), True),
            (("each", "x", ("truth",), ("or", var("x"), ("not", var("x")))), True),
            (("each", "x", JOB, ("in", var("x"), var("s"))), False),
            (("any", "x", JOB, ("in", var("x"), var("s"))), True),
            (("any", "x", JOB, ("in", var("x"), var("t"))), False),
            (("each", "x", SPOT, ("in", var("x"), ("every", "spots"))), True),
            (("each", "x", JOB, ("then", ("in", var("x"), var("s")), ("less", num(1), ("at", var("mn"), var("x"))))),
             True),
            (("each", "x", ("one", "rooms"), ("same", var("x"), elem("hall"))), True),
        ])

    def test_within_one_another(self):
        unlike = ("then", ("same", ("at", var("mn"), var("x")), ("at", var("mn"), var("y"))),
                  ("same", var("x"), var("y")))
        self.assert_worth(("each", "x", JOB, ("each", "y", JOB, unlike)), True)
        self.assert_worth(("each", "x", JOB, ("each", "y", JOB, unlike)), False, mn=(3, 0, 3))
        self.assert_worth(("each", "x", ("num", 3), ("any", "y", ("num", 3),
                                                     ("same", ("add", var("x"), var("y")), num(3)))), True)
        self.assert_worth(("any", "y", ("num", 3), ("each", "x", ("num", 3),
                                                    ("same", ("add", var("x"), var("y")), num(3)))), False)

    def test_a_name_that_hides_another_one(self):
        inner = ("any", "x", ("num", 9), ("same", var("x"), num(9)))
        self.assert_worth(("each", "x", ("num", 3), ("and", inner, ("most", var("x"), num(3)))), True)
        self.assert_worth(("each", "x", ("num", 3), ("and", ("most", var("x"), num(3)), inner)), True)
        self.assert_worth(("each", "x", JOB, ("and", ("each", "x", SPOT, ("in", var("x"), var("w"))),
                                              ("in", var("x"), var("s")))), False)
        self.assert_worth(("any", "x", JOB, ("and", ("any", "x", SPOT, ("in", var("x"), var("w"))),
                                             ("in", var("x"), var("s")))), True)

    def test_names_of_a_state_that_are_not_in_it(self):
        self.assertEqual(worth((), ("add", var("z'"), num(1)), {"z'": 4, "other": ("x",)}), 5)

    def test_deep_ones_end(self):
        thing = ("less", var("n"), num(9))
        for number in range(28):
            thing = ("each", f"x{number}", ("num", 15), thing)
        self.assert_worth(thing, True)
        for word in ("not", ("or", NO), ("then", YES)):
            outer = (word,) if isinstance(word, str) else word
            thing = YES
            for _ in range(28):
                thing = (*outer, thing)
            self.assert_worth(thing, True)
        self.assert_worth(nested("not", YES, 29), False)
        thing = var("mk")
        for _ in range(14):
            thing = ("put", var("mk"), elem("a"), ("at", thing, elem("a")))
        self.assert_worth(thing, ("left", "right", "left"))

    def test_by_the_names_of_its_arguments(self):
        self.assertEqual(worth(state={"n": 4}, expression=var("n"), carriers=()), 4)

    def test_what_was_handed_in_is_as_it_was(self):
        state = copy.deepcopy(STATE)
        worth(CARRIERS, ("each", "x", JOB, ("any", "n2", ("num", 3),
                                            ("in", var("x"), ("either", var("s"), var("u"))))), state)
        worth(CARRIERS, ("put", var("mn"), var("j"), num(5)), state)
        self.assertEqual(state, STATE)


if __name__ == "__main__":
    unittest.main()
