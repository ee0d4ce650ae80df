"""[3]: EXPRESSIONS, their SORTS, and the NAMES in them."""

import copy
import unittest

from odd_things import deep_dict, deep_list, deep_tuple, odd_things
from stairwright.errors import BadExpression
from stairwright.expressions import bound_in, is_of, names_in, put_in, sort_of, sort_of_type
from words import NO, YES, elem, nested, num, var

CARRIERS = (("jobs", ("a", "b", "c")), ("spots", ("left", "right")), ("rooms", ("hall",)))
CONTEXT = {
    "n": ("num", 7), "p": ("truth",), "j": ("one", "jobs"), "k": ("one", "spots"), "s": ("some", "jobs"),
    "t": ("some", "spots"), "mn": ("map", "jobs", ("num", 3)), "mp": ("map", "jobs", ("truth",)),
    "mk": ("map", "jobs", ("one", "spots")), "mj": ("map", "spots", ("one", "jobs")),
}
JOB, SPOT = ("one", "jobs"), ("one", "spots")
JOBS, SPOTS = ("some", "jobs"), ("some", "spots")
NUMS, TRUTHS, PLACES = ("map", "jobs", "num"), ("map", "jobs", "truth"), ("map", "jobs", SPOT)

# EXPRESSIONS of each word, with their SORTS.
GOOD = [
    (num(0), "num"), (num(1), "num"), (num(98), "num"), (num(99), "num"), (YES, "truth"), (NO, "truth"),
    (elem("a"), JOB), (elem("c"), JOB), (elem("right"), SPOT), (elem("hall"), ("one", "rooms")),
    (("none", "jobs"), JOBS), (("none", "spots"), SPOTS), (("every", "jobs"), JOBS),
    (("every", "rooms"), ("some", "rooms")),
    (var("n"), "num"), (var("p"), "truth"), (var("j"), JOB), (var("s"), JOBS), (var("mn"), NUMS), (var("mp"), TRUTHS),
    (var("mk"), PLACES), (var("mj"), ("map", "spots", JOB)),
    (("add", num(1), var("n")), "num"), (("sub", var("n"), num(1)), "num"), (("mul", num(9), num(9)), "num"),
    (("less", num(1), var("n")), "truth"), (("most", var("n"), num(1)), "truth"),
    (("same", num(1), var("n")), "truth"), (("same", YES, var("p")), "truth"), (("same", var("j"), elem("b")), "truth"),
    (("same", var("s"), ("none", "jobs")), "truth"), (("same", var("mn"), ("all", "jobs", num(0))), "truth"),
    (("same", var("mk"), ("all", "jobs", elem("left"))), "truth"),
    (("not", var("p")), "truth"), (("and", YES, var("p")), "truth"), (("or", var("p"), NO), "truth"),
    (("then", var("p"), NO), "truth"),
    (("if", YES, num(1), num(2)), "num"), (("if", YES, NO, var("p")), "truth"), (("if", NO, elem("a"), var("j")), JOB),
    (("if", NO, var("s"), ("every", "jobs")), JOBS), (("if", NO, var("mp"), var("mp")), TRUTHS),
    (("in", elem("a"), var("s")), "truth"), (("in", var("k"), ("every", "spots")), "truth"),
    (("within", var("s"), ("every", "jobs")), "truth"),
    (("both", var("s"), ("every", "jobs")), JOBS), (("either", var("t"), ("none", "spots")), SPOTS),
    (("but", var("s"), ("just", elem("a"))), JOBS), (("just", var("j")), JOBS), (("just", elem("left")), SPOTS),
    (("count", var("s")), "num"),
    (("all", "jobs", num(0)), NUMS), (("all", "jobs", YES), TRUTHS), (("all", "jobs", elem("left")), PLACES),
    (("all", "spots", elem("left")), ("map", "spots", SPOT)),
    (("at", var("mn"), elem("a")), "num"), (("at", var("mp"), var("j")), "truth"), (("at", var("mk"), var("j")), SPOT),
    (("at", var("mj"), ("at", var("mk"), var("j"))), JOB),
    (("put", var("mn"), elem("a"), num(99)), NUMS), (("put", var("mp"), var("j"), NO), TRUTHS),
    (("put", var("mk"), var("j"), var("k")), PLACES),
    (("each", "x", JOB, ("in", var("x"), var("s"))), "truth"),
    (("any", "x", ("num", 15), ("less", var("n"), var("x"))), "truth"),
    (("each", "x", ("truth",), var("x")), "truth"), (("any", "x", SPOT, YES), "truth"),
    (("each", "x", JOB, ("any", "y", SPOT, ("same", ("at", var("mk"), var("x")), var("y")))), "truth"),
    (("each", "x", JOB, ("any", "x", ("num", 1), ("less", var("x"), num(1)))), "truth"),
    (("each", "x", JOB, ("and", ("any", "x", ("truth",), var("x")), ("in", var("x"), var("s")))), "truth"),
]

BAD = {
    "a hundred": num(100), "below nought": num(-1), "a truth for a number": num(True), "no number": num("1"),
    "a number of many figures": num(10 ** 3999), "none": num(None),
    "no element": elem("d"), "a set for an element": elem("jobs"), "an empty element": elem(""),
    "no set": ("none", "job"), "an element for a set": ("every", "a"), "a tuple for a set": ("every", ("jobs",)),
    "no name of the context": var("z"), "an element for a name": var("a"), "a set for a name": var("jobs"),
    "add of a truth": ("add", num(1), YES), "add of a truth first": ("add", YES, num(1)),
    "sub of an element": ("sub", elem("a"), num(1)), "mul of a some": ("mul", num(1), var("s")),
    "less of truths": ("less", YES, YES), "most of elements": ("most", elem("a"), elem("b")),
    "same of a number and a truth": ("same", num(1), YES), "same of unlike sets": ("same", elem("a"), elem("left")),
    "same of unlike somes": ("same", var("s"), var("t")), "same of an element and a some": ("same", elem("a"),
                                                                                            var("s")),
    "same of unlike maps": ("same", var("mn"), var("mp")), "same of maps of unlike sets": ("same", var("mk"),
                                                                                           var("mj")),
    "not of a number": ("not", num(1)), "and of a number": ("and", YES, num(1)), "or of a number": ("or", num(0), YES),
    "then of a some": ("then", YES, var("s")), "if of a number": ("if", num(1), YES, YES),
    "if of unlike sorts": ("if", YES, num(1), NO), "if of unlike sets": ("if", YES, var("j"), var("k")),
    "if of unlike somes": ("if", YES, var("s"), var("t")), "if of unlike maps": ("if", YES, var("mn"), var("mp")),
    "in of unlike sets": ("in", elem("left"), var("s")), "in of a some": ("in", var("s"), var("s")),
    "in of an element": ("in", elem("a"), elem("a")), "in turned round": ("in", var("s"), elem("a")),
    "within of unlike sets": ("within", var("s"), var("t")), "within of an element": ("within", elem("a"), var("s")),
    "both of unlike sets": ("both", var("s"), var("t")), "either of elements": ("either", elem("a"), elem("b")),
    "but of an element": ("but", var("s"), elem("a")), "both of truths": ("both", YES, YES),
    "both of maps": ("both", var("mn"), var("mn")), "within of maps": ("within", var("mp"), var("mp")),
    "just of a number": ("just", num(1)), "just of a some": ("just", var("s")),
    "count of an element": ("count", elem("a")),
    "count of a map": ("count", var("mp")), "count of a set's name": ("count", "jobs"),
    "all of no set": ("all", "job", num(0)), "all of a some": ("all", "jobs", var("s")),
    "all of a map": ("all", "jobs", var("mn")), "all of an element for a set": ("all", "a", num(0)),
    "at of a some": ("at", var("s"), elem("a")), "at of another set": ("at", var("mn"), elem("left")),
    "at of a number": ("at", var("mn"), num(0)), "at of a some of the set": ("at", var("mn"), var("s")),
    "put at another set": ("put", var("mn"), elem("left"), num(0)),
    "put of another sort": ("put", var("mn"), elem("a"), YES),
    "put of another set": ("put", var("mk"), elem("a"), elem("b")),
    "put into a some": ("put", var("s"), elem("a"), YES),
    "each of a number": ("each", "x", JOB, num(1)), "any of a some": ("any", "x", JOB, var("s")),
    "each by a name of the context": ("each", "n", JOB, YES), "any by a name of the context": ("any", "s", JOB, YES),
    "each by a set": ("each", "jobs", JOB, YES), "each by an element": ("each", "a", JOB, YES),
    "any by an element of another set": ("any", "hall", JOB, YES), "each by no name": ("each", "X", JOB, YES),
    "each by yes": ("each", "yes", JOB, YES), "each by a name with a sign behind": ("each", "x'", JOB, YES),
    "each by nine signs": ("each", "abcdefghi", JOB, YES), "each of a some": ("each", "x", JOBS, YES),
    "each of a map": ("each", "x", ("map", "jobs", ("truth",)), YES), "any of num 0": ("any", "x", ("num", 0), YES),
    "any of num 16": ("any", "x", ("num", 16), YES), "any of no type": ("any", "x", "truth", YES),
    "each of a set's name": ("each", "x", "jobs", YES), "each of no set": ("each", "x", ("one", "job"), YES),
    "a name behind its each": ("and", ("each", "x", JOB, YES), ("in", var("x"), var("s"))),
    "a name ahead of its each": ("and", ("in", var("x"), var("s")), ("each", "x", JOB, YES)),
    "a hidden name": ("each", "x", JOB, ("any", "x", ("num", 1), ("in", var("x"), var("s")))),
    "an each around by the context's name": ("each", "x", JOB, ("each", "p", JOB, YES)),
    "no word": (), "an empty word": ("",), "another word": ("nor", YES, YES), "a word of a type": ("truth",),
    "a type": ("num", 3, 3), "a word in capitals": ("Yes",), "a word with a blank": ("yes ",), "a list": ["yes"],
    "a text": "yes", "bytes": (b"yes",), "a word in a tuple": (("yes",),), "a word in a list": (["yes"],),
}


def with_part(expression, place, new):
    return (*expression[:place], new, *expression[place + 1:])


def wide(many):
    """An EXPRESSION of just so many, few within one another."""
    if many < 3:
        return nested("not", YES, many - 1)
    half = (many - 1) // 2
    return ("and", wide(half), wide(many - 1 - half))


class SortTest(unittest.TestCase):
    def assert_refused(self, thing):
        with self.assertRaises(ValueError) as caught:
            sort_of(CARRIERS, CONTEXT, thing)
        self.assertIs(type(caught.exception), BadExpression)
        for sort in ("num", "truth", JOB, JOBS, NUMS):
            self.assertIs(is_of(CARRIERS, CONTEXT, thing, sort), False)

    def test_each_word_has_its_sort(self):
        for expression, sort in GOOD:
            with self.subTest(expression):
                self.assertEqual(sort_of(CARRIERS, CONTEXT, expression), sort)

    def test_all_words_are_among_them(self):
        words = set("num yes no elem none every var add sub mul less most same not and or then if in within both "
                    "either but just count all at put each any".split())
        self.assertEqual({expression[0] for expression, _ in GOOD}, words)

    def test_what_is_none(self):
        for why, thing in BAD.items():
            with self.subTest(why):
                self.assert_refused(thing)

    def test_what_is_none_within_others(self):
        for why, thing in BAD.items():
            for outer in (("not", thing), ("and", YES, thing), ("if", thing, YES, NO), ("each", "q", ("truth",), thing),
                          ("same", thing, thing), ("count", thing), ("all", "jobs", thing)):
                with self.subTest(why, outer=outer[0]):
                    self.assert_refused(outer)

    def test_a_part_more_or_fewer(self):
        for expression, _ in GOOD:
            with self.subTest(expression):
                self.assert_refused(expression + (YES,))
                self.assert_refused(expression + (num(1),))
                self.assert_refused(expression + ((),))
                self.assert_refused(expression + (None,))
                if len(expression) > 1:
                    self.assert_refused(expression[:-1])
                    self.assert_refused(expression[:1])

    def test_a_list_for_a_tuple(self):
        for expression, _ in GOOD:
            with self.subTest(expression):
                self.assert_refused(list(expression))
                for place, part in enumerate(expression):
                    if isinstance(part, tuple):
                        self.assert_refused(with_part(expression, place, list(part)))

    def test_a_truth_for_a_number_or_a_text(self):
        for expression, _ in GOOD:
            for place, part in enumerate(expression):
                if not isinstance(part, tuple):
                    with self.subTest(expression, place=place):
                        self.assert_refused(with_part(expression, place, True))
                        self.assert_refused(with_part(expression, place, False))

    def test_things_of_any_kind_at_any_place(self):
        self.assertEqual(len({expression[0] for expression, _ in GOOD}), 30)
        seen = {}
        for expression, _ in GOOD:
            seen.setdefault(expression[0], expression)
        for expression in seen.values():
            for place in range(len(expression)):
                for thing in odd_things():
                    fits = isinstance(thing, str) and thing in ("yes", "no") or isinstance(thing, int) and thing == 16
                    if not (fits and len(expression) <= 2):
                        self.assert_refused(with_part(expression, place, thing))
        for thing in odd_things() + [0, 1, True, False, "a", "yes", CARRIERS, CONTEXT, ("jobs", ("a",))]:
            self.assert_refused(thing)

    def test_how_many(self):
        self.assertEqual(sort_of(CARRIERS, CONTEXT, wide(599)), "truth")
        self.assertEqual(sort_of(CARRIERS, CONTEXT, wide(600)), "truth")
        self.assert_refused(wide(601))
        self.assert_refused(wide(602))
        self.assert_refused(wide(9000))

    def test_how_many_where_others_than_expressions_stand_in_it(self):
        # NAMES, SETS and SMALL TYPES don't count: 4 in each of these, 599 in all.
        parts = [("any", "x", JOB, ("in", var("x"), ("every", "jobs"))) for _ in range(120)]
        while len(parts) > 1:
            pairs = [("or", *parts[at:at + 2]) for at in range(0, len(parts) - 1, 2)]
            parts = pairs + parts[len(pairs) * 2:]
        self.assertEqual(sort_of(CARRIERS, CONTEXT, parts[0]), "truth")
        self.assertEqual(sort_of(CARRIERS, CONTEXT, ("not", parts[0])), "truth")
        self.assert_refused(("not", ("not", parts[0])))

    def test_how_deep(self):
        for word in ("not", ("each", "x", ("truth",)), ("and", YES), ("any", "x", JOB)):
            outer = (word,) if isinstance(word, str) else word
            thing = YES
            for deep in range(2, 40):
                thing = (*outer, thing)
                with self.subTest(word, deep=deep):
                    if deep <= 30:
                        self.assertEqual(sort_of(CARRIERS, CONTEXT, thing), "truth")
                    else:
                        self.assert_refused(thing)

    def test_how_deep_in_parts_that_are_no_truths(self):
        thing = num(0)
        for deep in range(2, 32):
            thing = ("add", thing, num(1)) if deep < 31 else ("add", num(1), thing)
            if deep <= 30:
                self.assertEqual(sort_of(CARRIERS, CONTEXT, thing), "num")
        self.assert_refused(thing)
        table = var("mn")
        for _ in range(29):
            table = ("put", table, elem("a"), num(1))
        self.assertEqual(sort_of(CARRIERS, CONTEXT, table), NUMS)
        self.assert_refused(("put", table, elem("a"), num(1)))

    def test_how_deep_in_all(self):
        number = var("n")
        for _ in range(14):
            number = ("at", ("all", "jobs", number), elem("a"))
        self.assertEqual(sort_of(CARRIERS, CONTEXT, number), "num")
        self.assertEqual(sort_of(CARRIERS, CONTEXT, ("all", "jobs", number)), NUMS)
        self.assert_refused(("at", ("all", "jobs", number), elem("a")))

    def test_far_beyond(self):
        for thing in (nested("not", YES, 149), deep_tuple(150), deep_list(150), deep_dict(150), ("not", deep_list(149)),
                      ("and", *[YES] * 19990), ("and", YES, tuple([YES] * 9000)), ("add", num(1), deep_dict(148)),
                      ("yes", *[()] * 19990), tuple(["not"] * 20000), ("each", deep_tuple(148), ("truth",), YES)):
            self.assert_refused(thing)

    def test_one_thing_at_many_places(self):
        # By its places it has more parts than could ever be gone through.
        thing = YES
        for _ in range(100):
            thing = ("and", thing, thing)
        self.assert_refused(thing)
        thing = YES
        for _ in range(29):
            thing = ("and", thing, thing)
        self.assert_refused(thing)

    def test_without_sets_and_without_names(self):
        self.assertEqual(sort_of((), {}, ("less", num(1), num(2))), "truth")
        for thing in (elem("a"), ("none", "jobs"), var("n"), ("all", "jobs", num(1)), ("each", "x", JOB, YES)):
            with self.assertRaises(BadExpression):
                sort_of((), {}, thing)
        self.assertEqual(sort_of((), {}, ("each", "jobs", ("num", 1), YES)), "truth")

    def test_names_of_goals(self):
        # A CONTEXT may have the NAMES of a GOAL.
        self.assertEqual(sort_of(CARRIERS, {"n'": ("num", 3)}, ("add", var("n'"), num(1))), "num")
        with self.assertRaises(BadExpression):
            sort_of(CARRIERS, {"n'": ("num", 3)}, var("n"))

    def test_is_of(self):
        sorts = sorted({sort for _, sort in GOOD}, key=repr)
        for expression, sort in GOOD:
            for other in sorts:
                with self.subTest(expression, other=other):
                    self.assertIs(is_of(CARRIERS, CONTEXT, expression, other), other == sort)

    def test_by_the_names_of_their_arguments(self):
        self.assertEqual(sort_of(thing=var("s"), context=CONTEXT, carriers=CARRIERS), JOBS)
        self.assertIs(is_of(sort=JOBS, thing=var("s"), context=CONTEXT, carriers=CARRIERS), True)
        self.assertIs(is_of(sort="num", thing=var("s"), context=CONTEXT, carriers=CARRIERS), False)
        self.assertEqual(sort_of_type(kind=("num", 3)), "num")
        self.assertEqual(names_in(expression=var("s")), ["s"])
        self.assertEqual(bound_in(expression=var("s")), [])
        self.assertEqual(put_in(changes={"s": num(1)}, expression=var("s")), num(1))

    def test_what_was_handed_in_is_as_it_was(self):
        context = dict(CONTEXT)
        for thing in [*BAD.values(), *[expression for expression, _ in GOOD]]:
            ahead = copy.deepcopy(thing)
            is_of(CARRIERS, context, thing, "truth")
            self.assertEqual(thing, ahead)
            self.assertEqual(context, CONTEXT)


class SortOfTypeTest(unittest.TestCase):
    def test_of_each_type(self):
        told = {("num", 1): "num", ("num", 15): "num", ("truth",): "truth", JOB: JOB, JOBS: JOBS,
                ("map", "jobs", ("num", 3)): NUMS, ("map", "jobs", ("truth",)): TRUTHS, ("map", "jobs", SPOT): PLACES}
        for kind, sort in told.items():
            self.assertEqual(sort_of_type(kind), sort)


class NamesTest(unittest.TestCase):
    def test_in_the_order_of_writing_each_once(self):
        thing = ("and", ("less", var("n"), ("add", var("k"), var("n"))), ("in", var("a"), ("but", var("s"), var("k"))))
        self.assertEqual(names_in(thing), ["n", "k", "a", "s"])
        self.assertEqual(names_in(("if", var("z"), var("y"), var("x"))), ["z", "y", "x"])
        self.assertEqual(names_in(("put", var("m"), var("j"), ("at", var("m"), var("k")))), ["m", "j", "k"])
        self.assertEqual(names_in(("all", "jobs", ("add", var("q"), num(1)))), ["q"])

    def test_none(self):
        for thing in (YES, num(3), elem("a"), ("none", "jobs"), ("every", "jobs"), ("add", num(1), num(2)),
                      ("each", "x", JOB, YES)):
            self.assertEqual(names_in(thing), [])

    def test_within_each_and_any(self):
        thing = ("each", "x", JOB, ("any", "y", JOB, ("and", ("in", var("y"), var("s")), ("same", var("x"), var("j")))))
        self.assertEqual(names_in(thing), ["y", "s", "x", "j"])

    def test_bound(self):
        inner = ("any", "y", ("num", 3), ("each", "x", SPOT, YES))
        thing = ("and", ("each", "x", JOB, ("or", inner, ("any", "w", JOB, YES))), ("each", "v", JOB, YES))
        self.assertEqual(bound_in(thing), ["x", "y", "w", "v"])
        self.assertEqual(bound_in(("and", var("x"), var("y"))), [])
        self.assertEqual(bound_in(("if", ("any", "c", JOB, YES), ("any", "b", JOB, YES), ("each", "c", JOB, YES))),
                         ["c", "b"])
        self.assertEqual(bound_in(("not", ("all", "jobs", ("each", "x", JOB, YES)))), ["x"])

    def test_what_is_told_is_the_askers_own(self):
        thing = ("and", var("x"), ("each", "y", JOB, YES))
        names_in(thing).append("z")
        bound_in(thing).clear()
        self.assertEqual(names_in(thing), ["x"])
        self.assertEqual(bound_in(thing), ["y"])


class PutInTest(unittest.TestCase):
    def test_all_of_these_names(self):
        thing = ("and", ("less", var("n"), ("add", var("n"), var("k"))), ("same", var("j"), elem("a")))
        changed = ("and", ("less", ("mul", num(2), num(3)), ("add", ("mul", num(2), num(3)), var("k"))),
                   ("same", var("i"), elem("a")))
        self.assertEqual(put_in(thing, {"n": ("mul", num(2), num(3)), "j": var("i"), "z": YES}), changed)

    def test_nothing_else(self):
        # Not what is only called so.
        thing = ("and", ("in", elem("n"), ("every", "n")), ("each", "n", ("one", "n"),
                                                            ("same", ("all", "n", num(1)), var("m"))))
        self.assertEqual(put_in(thing, {"n": num(5)}), thing)
        for expression, _ in GOOD:
            self.assertEqual(put_in(expression, {}), expression)
            self.assertEqual(put_in(expression, {"zz": YES}), expression)

    def test_within_each_and_any(self):
        thing = ("each", "x", JOB, ("any", "y", JOB, ("same", var("x"), var("j"))))
        self.assertEqual(put_in(thing, {"j": elem("a")}), ("each", "x", JOB,
                                                           ("any", "y", JOB, ("same", var("x"), elem("a")))))

    def test_what_is_put_in_is_not_gone_through_again(self):
        self.assertEqual(put_in(("add", var("x"), var("y")), {"x": var("y"), "y": var("x")}),
                         ("add", var("y"), var("x")))
        self.assertEqual(put_in(var("x"), {"x": ("add", var("x"), num(1))}), ("add", var("x"), num(1)))

    def test_what_was_handed_in_is_as_it_was(self):
        changes = {"x": var("y")}
        thing = ("not", var("x"))
        put_in(thing, changes)
        self.assertEqual((thing, changes), (("not", var("x")), {"x": var("y")}))


if __name__ == "__main__":
    unittest.main()
