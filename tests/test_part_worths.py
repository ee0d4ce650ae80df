"""[5]: KNOWN and the PART WORTH of an EXPRESSION."""

import random
import unittest

from plain_parts import Maker, all_values, known_at, plain_part_worth
from stairwright.expressions import is_of
from stairwright.types import cells_of
from stairwright.worths import part_worth, worth
from words import NO, YES, elem, num, var

CARRIERS = (("jobs", ("a", "b", "c")), ("spots", ("left", "right")), ("rooms", ("hall",)))
JOB = ("one", "jobs")
CONTEXT = {"n": ("num", 5), "m": ("num", 5), "p": ("truth",), "q": ("truth",), "j": JOB, "k": ("one", "spots"),
           "s": ("some", "jobs"), "t": ("some", "jobs"), "mn": ("map", "jobs", ("num", 3)),
           "mo": ("map", "jobs", ("num", 3)),
           "mp": ("map", "jobs", ("truth",)), "mk": ("map", "jobs", ("one", "spots"))}
T, F, U = True, False, None


def known_by(**told):
    """KNOWN of a VALUE for a NAME of a SMALL TYPE, a tuple with None where nothing is known for others."""
    known = {}
    for name, value in told.items():
        cells = [cell for cell, _ in cells_of(CARRIERS, name, CONTEXT[name])]
        for cell, part in zip(cells, value if isinstance(value, tuple) else (value,)):
            if part is not None:
                known[cell] = part
    return known


class PartWorthTest(unittest.TestCase):
    def assert_told(self, expression, worth_told, **told):
        with self.subTest(expression, **told):
            found = part_worth(CARRIERS, CONTEXT, expression, known_by(**told))
            self.assertEqual(found, worth_told)
            self.assertIs(type(found), type(worth_told))
            if isinstance(found, tuple):
                self.assertEqual([type(part) for part in found], [type(part) for part in worth_told])

    def test_bare_words(self):
        for expression, told in [(num(7), 7), (YES, T), (NO, F), (elem("b"), "b"), (("none", "jobs"), (F, F, F)),
                                 (("every", "jobs"), (T, T, T)), (("every", "rooms"), (T,))]:
            self.assert_told(expression, told)

    def test_var_tells_its_cells(self):
        self.assert_told(var("n"), U)
        self.assert_told(var("n"), 0, n=0)
        self.assert_told(var("p"), F, p=F)
        self.assert_told(var("j"), "c", j="c")
        self.assert_told(var("s"), (U, U, U))
        self.assert_told(var("s"), (T, U, F), s=(T, U, F))
        self.assert_told(var("mn"), (U, 0, 3), mn=(U, 0, 3))
        self.assert_told(var("mk"), ("left", U, U), mk=("left", U, U))

    def test_numbers_are_told_where_both_are(self):
        for word, told in [("add", 5), ("sub", -1), ("mul", 6), ("less", T), ("most", T)]:
            self.assert_told((word, var("n"), var("m")), told, n=2, m=3)
            self.assert_told((word, var("n"), var("m")), U, n=2)
            self.assert_told((word, var("n"), var("m")), U, m=3)
            self.assert_told((word, var("n"), var("n")), U)
        self.assert_told(("mul", num(0), var("n")), U)
        self.assert_told(("most", num(0), var("n")), U)
        self.assert_told(("sub", var("n"), var("n")), U)

    def test_truths(self):
        def by(one, other, word):
            told = {"and": F if F in (one, other) else U if U in (one, other) else T,
                    "or": T if T in (one, other) else U if U in (one, other) else F,
                    "then": T if one is F or other is T else U if U in (one, other) else F}
            self.assert_told((word, var("p"), var("q")), told[word], p=one, q=other)
        for one in (T, F, U):
            self.assert_told(("not", var("p")), {T: F, F: T, U: U}[one], p=one)
            for other in (T, F, U):
                for word in ("and", "or", "then"):
                    by(one, other, word)
        self.assert_told(("or", var("p"), ("not", var("p"))), U)

    def test_each_and_any(self):
        in_s = ("in", var("x"), var("s"))
        for word, closing in (("each", F), ("any", T)):
            self.assert_told((word, "x", JOB, in_s), U)
            self.assert_told((word, "x", JOB, in_s), U, s=(not closing, U, not closing))
            self.assert_told((word, "x", JOB, in_s), closing, s=(U, U, closing))
            self.assert_told((word, "x", JOB, in_s), closing, s=(closing, U, U))
            self.assert_told((word, "x", JOB, in_s), not closing, s=(not closing, not closing, not closing))
        self.assert_told(("each", "x", ("num", 3), ("most", var("x"), num(3))), T)
        self.assert_told(("any", "x", ("num", 3), ("same", var("x"), var("n"))), U)
        self.assert_told(("any", "x", ("num", 3), ("or", ("same", var("x"), var("n")), ("less", num(2), var("x")))), T)
        self.assert_told(("each", "x", ("truth",), ("and", var("x"), var("p"))), F)
        self.assert_told(("each", "x", ("truth",), var("p")), U)
        self.assert_told(("each", "x", ("truth",), var("p")), T, p=T)
        self.assert_told(("any", "x", ("truth",), ("any", "x", JOB, ("in", var("x"), var("s")))), T, s=(U, T, U))
        hidden = ("and", ("any", "x", JOB, ("in", var("x"), var("s"))), ("same", var("x"), num(2)))
        self.assert_told(("any", "x", ("num", 3), hidden), T, s=(U, T, U))
        self.assert_told(("any", "x", ("num", 3), hidden), U, s=(U, F, U))
        self.assert_told(("any", "x", ("num", 3), hidden), F, s=(F, F, F))

    def test_same(self):
        self.assert_told(("same", var("n"), num(2)), U)
        self.assert_told(("same", var("n"), num(2)), T, n=2)
        self.assert_told(("same", var("n"), num(2)), F, n=3)
        self.assert_told(("same", var("n"), var("n")), U)
        self.assert_told(("same", var("p"), NO), T, p=F)
        self.assert_told(("same", elem("a"), var("j")), F, j="b")
        self.assert_told(("same", var("s"), var("t")), U)
        self.assert_told(("same", var("s"), var("t")), F, s=(U, U, T), t=(U, U, F))
        self.assert_told(("same", var("s"), var("t")), U, s=(T, F, T), t=(T, F, U))
        self.assert_told(("same", var("s"), var("t")), U, s=(T, F, U), t=(U, F, T))
        self.assert_told(("same", var("s"), var("t")), T, s=(T, F, T), t=(T, F, T))
        self.assert_told(("same", var("mn"), var("mo")), F, mn=(0, 1, U), mo=(U, 2, 2))
        self.assert_told(("same", var("mn"), var("mo")), U, mn=(0, 1, U), mo=(U, 1, 2))
        self.assert_told(("same", var("mn"), ("all", "jobs", num(2))), T, mn=(2, 2, 2))
        self.assert_told(("same", var("mp"), ("all", "jobs", NO)), F, mp=(U, U, T))

    def test_if(self):
        self.assert_told(("if", var("p"), var("n"), var("m")), 2, p=T, n=2)
        self.assert_told(("if", var("p"), var("n"), var("m")), U, p=F, n=2)
        self.assert_told(("if", var("p"), var("n"), var("m")), 3, p=F, m=3)
        self.assert_told(("if", var("p"), var("n"), var("m")), U, n=2, m=3)
        self.assert_told(("if", var("p"), var("n"), var("m")), 2, n=2, m=2)
        self.assert_told(("if", var("p"), var("n"), var("m")), U, n=2)
        self.assert_told(("if", var("p"), var("n"), var("m")), U)
        self.assert_told(("if", var("p"), NO, var("q")), F, q=F)
        self.assert_told(("if", var("p"), var("j"), elem("b")), "b", j="b")
        self.assert_told(("if", var("p"), var("s"), var("t")), (T, U, U), s=(T, T, U), t=(T, F, U))
        self.assert_told(("if", var("p"), var("s"), var("t")), (T, U, U), p=T, s=(T, U, U), t=(F, T, F))
        self.assert_told(("if", var("p"), var("mn"), var("mo")), (1, U, U), mn=(1, 2, U), mo=(1, 3, U))
        self.assert_told(("if", var("p"), var("mn"), var("mo")), (1, 3, U), p=F, mo=(1, 3, U))

    def test_in_and_within(self):
        self.assert_told(("in", var("j"), var("s")), T, j="b", s=(U, T, U))
        self.assert_told(("in", var("j"), var("s")), U, j="a", s=(U, T, T))
        self.assert_told(("in", var("j"), var("s")), U, s=(T, T, F))
        self.assert_told(("in", var("j"), var("s")), U, s=(T, T, U))
        self.assert_told(("in", var("j"), var("s")), T, s=(T, T, T))
        self.assert_told(("in", var("j"), var("s")), F, s=(F, F, F))
        self.assert_told(("in", var("j"), ("every", "jobs")), T)
        self.assert_told(("within", var("s"), var("t")), U)
        self.assert_told(("within", var("s"), var("t")), F, s=(U, T, U), t=(U, F, U))
        self.assert_told(("within", var("s"), var("t")), T, s=(F, T, F), t=(U, T, U))
        self.assert_told(("within", var("s"), var("t")), U, s=(F, U, F), t=(U, F, U))
        self.assert_told(("within", var("s"), var("t")), T, s=(U, U, F), t=(T, T, U))

    def test_somes(self):
        rows = [  # s, t, both, either, but
            (T, T, T, T, F), (T, F, F, T, T), (T, U, U, T, U), (F, T, F, T, F), (F, F, F, F, F), (F, U, F, U, F),
            (U, T, U, T, F), (U, F, F, U, U), (U, U, U, U, U),
        ]
        for one, other, both, either, but in rows:
            for word, told in (("both", both), ("either", either), ("but", but)):
                self.assert_told((word, var("s"), var("t")), (U, told, U), s=(U, one, U), t=(U, other, U))
        self.assert_told(("both", var("s"), var("t")), (T, F, U), s=(T, F, U), t=(T, U, T))
        self.assert_told(("but", ("every", "jobs"), var("t")), (F, U, T), t=(T, U, F))
        self.assert_told(("just", var("j")), (U, U, U))
        self.assert_told(("just", var("j")), (F, T, F), j="b")
        self.assert_told(("count", var("s")), U, s=(T, T, U))
        self.assert_told(("count", var("s")), 2, s=(T, T, F))
        self.assert_told(("count", ("none", "jobs")), 0)

    def test_maps(self):
        self.assert_told(("all", "jobs", var("n")), (U, U, U))
        self.assert_told(("all", "jobs", var("n")), (4, 4, 4), n=4)
        self.assert_told(("at", var("mn"), var("j")), 3, j="c", mn=(U, U, 3))
        self.assert_told(("at", var("mn"), var("j")), U, j="a", mn=(U, 3, 3))
        self.assert_told(("at", var("mn"), var("j")), U, mn=(3, 3, U))
        self.assert_told(("at", var("mn"), var("j")), U, mn=(3, 3, 2))
        self.assert_told(("at", var("mn"), var("j")), 3, mn=(3, 3, 3))
        self.assert_told(("at", var("mp"), var("j")), F, mp=(F, F, F))
        self.assert_told(("put", var("mn"), var("j"), var("n")), (U, 5, 2), j="b", n=5, mn=(U, 1, 2))
        self.assert_told(("put", var("mn"), var("j"), var("n")), (1, U, 2), j="b", mn=(1, 1, 2))
        self.assert_told(("put", var("mn"), var("j"), var("n")), (1, U, U), n=1, mn=(1, 2, U))
        self.assert_told(("put", var("mn"), var("j"), var("n")), (U, U, U), mn=(1, 2, 3))
        self.assert_told(("at", ("put", var("mn"), var("j"), num(2)), var("j")), U, mn=(2, 2, U))
        self.assert_told(("at", ("put", var("mn"), var("j"), num(2)), var("j")), 2, mn=(2, 2, 2))

    def test_known_is_as_it_was(self):
        known = known_by(n=2, s=(T, U, F))
        ahead = dict(known)
        part_worth(CARRIERS, CONTEXT, ("each", "x", JOB, ("any", "y", ("num", 3), ("in", var("x"), var("s")))), known)
        self.assertEqual(known, ahead)

    def test_by_the_names_of_its_arguments(self):
        self.assertEqual(part_worth(known={("n", None): 3}, expression=var("n"), context={"n": ("num", 3)},
                                    carriers=()), 3)

    def test_deep_ones_end(self):
        one = {"j": JOB, "m": ("map", "jobs", JOB), "n": ("num", 15)}
        things = {"put": var("j"), "new": var("j"), "all": var("j"), "just": var("j")}
        for _ in range(14):
            things["put"] = ("at", ("put", var("m"), things["put"], var("j")), elem("a"))
            things["new"] = ("at", ("put", var("m"), var("j"), things["new"]), var("j"))
            things["all"] = ("at", ("all", "jobs", things["all"]), var("j"))
        for _ in range(9):
            things["just"] = ("if", ("in", things["just"], ("just", var("j"))), var("j"), var("j"))
        for word, thing in things.items():
            with self.subTest(word):
                part_worth(CARRIERS, one, thing, {})
        thing = ("less", var("n"), num(9))
        for number in range(28):
            thing = ("each", f"x{number}", ("num", 15), thing)
        self.assertIs(part_worth(CARRIERS, one, thing, {}), None)
        self.assertIs(part_worth(CARRIERS, one, thing, {("n", None): 9}), False)


class AnyExpressionTest(unittest.TestCase):
    """By chance, but by the same one each time."""

    def test_what_is_told(self):
        chance = random.Random(5)
        tried = 0
        while tried < 1500:
            maker = Maker(chance, CARRIERS, {})
            context = {name: maker.a_type() for name in ("n", "m", "s", "t", "u")}
            maker.context = context
            sort = maker.a_sort()
            expression = maker.made(sort, chance.randint(2, 6), {})
            if is_of(CARRIERS, context, expression, sort):
                tried += 1
                self.assert_told_rightly(chance, context, expression)

    def assert_told_rightly(self, chance, context, expression):
        state = {name: chance.choice(all_values(CARRIERS, kind)) for name, kind in context.items()}
        known = known_at(CARRIERS, context, state)
        whole = part_worth(CARRIERS, context, expression, known)
        self.assertEqual(whole, plain_part_worth(CARRIERS, context, expression, known), expression)
        self.assert_worth(expression, worth(CARRIERS, expression, state), whole)
        for share in (0, 0.3, 0.6, 0.9):
            less = {cell: value for cell, value in known.items() if chance.random() < share}
            told = part_worth(CARRIERS, context, expression, less)
            self.assertEqual(told, plain_part_worth(CARRIERS, context, expression, less), (expression, less))
            self.assert_part(told, whole)

    def assert_worth(self, expression, found, whole):
        if isinstance(whole, tuple) and isinstance(whole[0], bool) and not (len(found) > 0
            and isinstance(found[0], bool)):
            members = [members for _, members in CARRIERS if len(members) == len(whole)][0]
            whole = tuple([member for member, there in zip(members, whole) if there])
        self.assertEqual(found, whole, expression)

    def assert_part(self, told, whole):
        """What is told is the WORTH."""
        pairs = zip(told, whole) if isinstance(whole, tuple) else [(told, whole)]
        for part, full in pairs:
            if part is not None:
                self.assertEqual((part, type(part)), (full, type(full)))


if __name__ == "__main__":
    unittest.main()
