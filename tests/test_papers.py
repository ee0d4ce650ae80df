"""[8], its end, and [9]: GOALS that are handed in, PAPERS and BREAKS."""

import copy
import random
import unittest

from odd_things import deep_list, deep_tuple, odd_things
from plain_parts import Maker, all_states, all_values
from stairs import DEVELOPMENTS, JOBS, LAMP, TANK, changed
from stairwright.errors import BadCarriers, BadGoal, TooGreat
from stairwright.goals import goals_of
from stairwright.papercheck import check_break, check_paper
from stairwright.papers import break_of, need_goal, paper_of
from stairwright.worths import worth
from words import NO, YES, elem, joined, nested, num, var

CARRIERS = (("jobs", ("a", "b", "c")), ("spots", ("left", "right")))
JOB, SPOT, TRUTH = ("one", "jobs"), ("one", "spots"), ("truth",)


def goal(names, hyps, wish, which=(0, "deed", "stays", "label")):
    return (which, tuple(names), tuple(hyps), wish)


def nums(many, most=15):
    return [(f"n{number}", ("num", most)) for number in range(many)]


def balanced(word, leaf, many):
    """An EXPRESSION of just so many, of bare ones and nots joined by the word."""
    if many < 3:
        return nested("not", leaf, many - 1)
    half = (many - 1) // 2
    return (word, balanced(word, leaf, half), balanced(word, leaf, many - 1 - half))


class NeedGoalTest(unittest.TestCase):
    def assert_good(self, thing, carriers=CARRIERS):
        self.assertIsNone(need_goal(carriers, thing))

    def assert_bad(self, thing, carriers=CARRIERS):
        for asked in (need_goal, paper_of, break_of, lambda one, other: check_paper(one, other, ("so",)),
                      lambda one, other: check_break(one, other, {})):
            with self.assertRaises(ValueError) as caught:
                asked(carriers, thing)
            self.assertIs(type(caught.exception), BadGoal)

    def test_goals_of_developments(self):
        for carriers, models in DEVELOPMENTS.values():
            for thing in goals_of((carriers, models)):
                self.assert_good(thing, carriers)

    def test_the_tuple_and_the_id(self):
        good = goal([], [], YES)
        self.assert_good(good)
        for which in [(1, 2, 3, 4), (None,) * 4, ([], {}, (), "x"), (deep_list(100), True, -1, b"")]:
            self.assert_good(goal([], [], YES, which))
        for which in [(), (1, 2, 3), (1, 2, 3, 4, 5), [1, 2, 3, 4], None, "four", {1: 2}, 4, True]:
            self.assert_bad(goal([], [], YES, which))
        for thing in [good[:3], good + (YES,), list(good), (), None, [good], (good,)]:
            self.assert_bad(thing)

    def test_names(self):
        self.assert_good(goal(nums(60), [], YES))
        self.assert_bad(goal(nums(61), [], YES))
        self.assert_good(goal([("n", TRUTH), ("n'", ("num", 3)), ("abcdefgh'", TRUTH), ("abcdefgh", TRUTH)], [],
                              var("n")))
        for names in [[("n", TRUTH), ("n", TRUTH)], [("n", TRUTH), ("m", TRUTH), ("n", ("num", 3))],
                      [("n'", TRUTH), ("n'", TRUTH)],
                      [("jobs", TRUTH)], [("a", TRUTH)], [("n", TRUTH), ("right", SPOT)], [("n''", TRUTH)],
                      [("'", TRUTH)], [("'n", TRUTH)],
                      [("n'n", TRUTH)], [("N", TRUTH)], [("yes", TRUTH)], [("yes'", TRUTH)], [("abcdefghi", TRUTH)],
                      [("abcdefghi'", TRUTH)],
                      [("", TRUTH)], [(None, TRUTH)], [(True, TRUTH)], [(1, TRUTH)], [(b"n", TRUTH)], [(("n",), TRUTH)],
                      [("n", "truth")], [("n", ("num", 16))], [("n", ("num", 0))], [("n", ("one", "a"))],
                      [("n", ["truth"])], [("n", None)],
                      [("n",)], [("n", TRUTH, 1)], [["n", TRUTH]], ["n"], [None], [()]]:
            with self.subTest(names):
                self.assert_bad(goal(names, [], YES))
        self.assert_bad(((0, 0, 0, 0), [("n", TRUTH)], (), YES))
        self.assert_bad(((0, 0, 0, 0), {"n": TRUTH}, (), YES))
        self.assert_bad(((0, 0, 0, 0), None, (), YES))

    def test_hyps_and_wish(self):
        names = [("n", ("num", 3)), ("p'", TRUTH), ("s", ("some", "jobs"))]
        self.assert_good(goal(names, [YES] * 60, YES))
        self.assert_bad(goal(names, [YES] * 61, YES))
        self.assert_good(goal(names, [var("p'")], ("less", var("n"), num(0))))
        for wrong in [var("n"), var("s"), num(1), elem("a"), var("p"), var("q"), ("less", var("m"), num(1)), ["yes"],
                      "yes", None, True, (),
                      ("and", YES), ("each", "n", JOB, YES), ("each", "p'", JOB, YES), ("any", "a", JOB, YES),
                      ("each", "x''", JOB, YES)]:
            with self.subTest(wrong):
                self.assert_bad(goal(names, [], wrong))
                self.assert_bad(goal(names, [YES, wrong], YES))
        self.assert_good(goal(names, [], ("each", "x'", JOB, ("in", var("x'"), var("s")))))
        self.assert_good(goal(names, [("any", "n'", JOB, ("in", var("n'"), var("s")))], YES))
        for hyps in [[], None, YES, {}, "yes"]:
            self.assert_bad(((0, 0, 0, 0), (), hyps, YES))

    def test_how_many_and_how_deep(self):
        for place in ([], [YES]):
            for thing in (balanced("and", YES, 6000), balanced("or", var("p"), 5999), nested("not", YES, 99),
                          nested("not", ("each", "x", JOB, YES), 98)):
                self.assert_good(goal([("p", TRUTH)], place + [thing], YES))
                self.assert_good(goal([("p", TRUTH)], place, thing))
            for thing in (balanced("and", YES, 6001), balanced("or", var("p"), 9000), nested("not", YES, 100),
                          nested("not", YES, 148),
                          ("not", deep_tuple(140)), ("not", deep_list(140)), ("not", *[YES] * 19000)):
                self.assert_bad(goal([("p", TRUTH)], place + [thing], YES))
                self.assert_bad(goal([("p", TRUTH)], place, thing))
        twice = YES
        for _ in range(99):
            twice = ("and", twice, twice)
        self.assert_bad(goal([], [], twice))

    def test_things_of_any_kind_at_any_place(self):
        good = goal([("n", ("num", 3)), ("s", ("some", "jobs"))],
                    [("less", var("n"), num(2)), ("in", elem("a"), var("s"))],
                    ("each", "x", JOB, ("less", num(0), var("n"))))
        self.assert_good(good)
        paths = [(), (0,), (1,), (1, 0), (1, 0, 0), (1, 0, 1), (1, 1, 1), (1, 1, 1, 1), (2,), (2, 0), (2, 1),
                 (2, 1, 0), (2, 1, 1), (2, 1, 1, 1),
                 (2, 1, 2, 1), (3,), (3, 0), (3, 1), (3, 2), (3, 2, 1), (3, 3), (3, 3, 1), (3, 3, 2)]
        for path in paths:
            for thing in odd_things() + [True, 0]:
                # The NAME of an each may be such a one.
                if not (path == (3, 1) and isinstance(thing, str) and thing == "a'"):
                    self.assert_bad(changed(good, path, thing))

    def test_carriers_ahead_of_the_goal(self):
        for carriers in [[], None, (("jobs", ()),), {}, *odd_things()]:
            for asked in (need_goal, paper_of, break_of, lambda one, other: check_paper(one, other, None),
                          lambda one, other: check_break(one, other, None)):
                for thing in (goal([], [], YES), None, []):
                    with self.assertRaises(ValueError) as caught:
                        asked(carriers, thing)
                    self.assertIs(type(caught.exception), BadCarriers)

    def test_by_the_names_of_their_arguments(self):
        good = goal([("p", TRUTH)], [var("p")], var("p"))
        self.assertIsNone(need_goal(goal=good, carriers=CARRIERS))
        self.assertEqual(check_paper(CARRIERS, good, paper_of(goal=good, carriers=CARRIERS)), 1)
        self.assertIsNone(break_of(goal=good, carriers=CARRIERS))


N, M = ("n", ("num", 7)), ("m", ("num", 7))
P, Q, J, K = ("p", TRUTH), ("q", TRUTH), ("j", JOB), ("k", JOB)
S, T = ("s", ("some", "jobs")), ("t", ("some", "jobs"))
TABLE, PLACES, MARKS = ("m", ("map", "jobs", ("num", 3))), ("m", ("map", "jobs", SPOT)), ("m", ("map", "spots", TRUTH))
BITS = ("m", ("map", "jobs", ("num", 1)))


def table_at(name):
    return ("at", var("m"), var(name))


def less_than(one, other):
    return ("less", one, other)


DIFFERENCE = ("sub", var("n"), var("m"))
TWICE_X = ("add", var("x"), var("x"))
ALL_BELOW = ("each", "x", JOB, less_than(table_at("x"), num(2)))
STILL_BELOW = ("each", "x", JOB, less_than(("at", ("put", var("m"), var("j"), num(1)), var("x")), num(2)))
ALL_UNLIKE = ("each", "x", JOB, ("each", "y", JOB, (
    "or", ("same", var("x"), var("y")), ("not", ("same", table_at("x"), table_at("y"))))))

# By what they try: (NAMES, HYPS, WISH).
TRUE_GOALS = {
    "no names": ([], [], YES),
    "no names and a hyp that is not": ([], [NO], NO),
    "a number": ([N], [less_than(var("n"), num(7))], ("most", ("add", var("n"), num(1)), num(7))),
    "numbers": ([N, M], [less_than(var("n"), var("m"))], ("most", ("add", var("n"), num(1)), var("m"))),
    "a product": ([N, M], [], ("most", num(0), ("mul", DIFFERENCE, DIFFERENCE))),
    "a truth": ([P], [], ("or", var("p"), ("not", var("p")))),
    "truths": ([P, Q], [("then", var("p"), var("q")), ("not", var("q"))], ("not", var("p"))),
    "ones": ([J, K], [("same", var("j"), var("k"))], ("in", var("j"), ("just", var("k")))),
    "a one": ([J], [], ("in", var("j"), ("every", "jobs"))),
    "of one set": ([J], [], joined("or", *[("same", var("j"), elem(job)) for job in "abc"])),
    "somes": ([S, T], [("within", var("s"), var("t"))], ("most", ("count", var("s")), ("count", var("t")))),
    "a some and a one": ([S, J], [("not", ("in", var("j"), var("s")))], (
        "same", ("count", ("either", var("s"), ("just", var("j")))), ("add", ("count", var("s")), num(1)))),
    "maps": ([TABLE, J], [ALL_BELOW], STILL_BELOW),
    "a map of ones": ([PLACES], [], ("or", ("any", "x", JOB, ("same", table_at("x"), elem("left"))),
                                     ("same", var("m"), ("all", "jobs", elem("right"))))),
    "a map of truths": ([MARKS], [("same", var("m"), ("all", "spots", YES))], ("each", "x", SPOT, table_at("x"))),
    "each within any": ([S], [("any", "x", JOB, ("in", var("x"), var("s")))], less_than(num(0), ("count", var("s")))),
    "any of numbers": ([N], [], ("any", "x", ("num", 3), (
        "or", ("same", var("n"), TWICE_X), ("same", var("n"), ("add", TWICE_X, num(1)))))),
    "hyps that no state has": ([N, M, P], [less_than(var("n"), var("m")), less_than(var("m"), var("n"))], var("p")),
    "a hyp that none has": ([N, P], [less_than(var("n"), num(0))], var("p")),
    "three in two": ([BITS], [ALL_UNLIKE], NO),
}
BROKEN_GOALS = {
    "no names": ([], [], NO),
    "no names and hyps": ([], [YES, YES], less_than(num(1), num(1))),
    "a number": ([N], [], less_than(var("n"), num(7))),
    "numbers": ([N, M], [("most", var("n"), var("m"))], less_than(var("n"), var("m"))),
    "a truth": ([P], [], var("p")),
    "ones": ([J, K], [("in", var("j"), ("just", var("k")))], ("same", var("j"), elem("b"))),
    "somes": ([S, T], [("within", var("s"), var("t"))], less_than(("count", var("s")), ("count", var("t")))),
    "maps": ([TABLE, J], [], STILL_BELOW),
    "a map of ones": ([PLACES], [], ("any", "x", JOB, ("same", table_at("x"), elem("left")))),
    "a map of truths": ([MARKS], [], ("each", "x", SPOT, table_at("x"))),
    "a name with a sign behind": ([N, ("n'", ("num", 7))], [("same", ("add", var("n"), num(1)), var("n'"))],
                                  less_than(var("n'"), num(7))),
    "one state of many": (nums(3, 9), [("same", joined("add", var("n0"), var("n1"), var("n2")), num(27))], NO),
    "sixty names": (nums(60), [less_than(var(f"n{place}"), var(f"n{place + 1}")) for place in range(0, 60, 2)],
                    less_than(("add", var("n0"), var("n59")), num(29))),
}


class PaperTest(unittest.TestCase):
    def assert_true(self, carriers, thing, most=None):
        paper = paper_of(carriers, thing)
        self.assertIsNotNone(paper)
        splits = check_paper(carriers, thing, paper)
        self.assertEqual(splits, count_splits(paper))
        self.assertIsNone(break_of(carriers, thing))
        self.assertEqual(paper_of(carriers, thing), paper)
        if most is not None:
            self.assertLessEqual(splits, most)

    def assert_broken(self, carriers, thing):
        self.assertIsNone(paper_of(carriers, thing))
        state = break_of(carriers, thing)
        self.assertIs(check_break(carriers, thing, state), True)
        self.assertEqual(list(state), [name for name, _ in thing[1]])
        self.assertEqual(break_of(carriers, thing), state)

    def test_true_goals(self):
        for why, (names, hyps, wish) in TRUE_GOALS.items():
            with self.subTest(why):
                self.assert_true(CARRIERS, goal(names, hyps, wish))

    def test_goals_that_are_not(self):
        for why, (names, hyps, wish) in BROKEN_GOALS.items():
            with self.subTest(why):
                self.assert_broken(CARRIERS, goal(names, hyps, wish))

    def test_goals_of_developments(self):
        for carriers, models in DEVELOPMENTS.values():
            for thing in goals_of((carriers, models)):
                with self.subTest(thing[0]):
                    self.assert_true(carriers, thing)

    def test_goals_of_a_development_that_are_broken(self):
        wrong = changed(LAMP, (1, 1, 4, 0, 3), ())
        found = [thing[0] for thing in goals_of(wrong) if paper_of((), thing) is None]
        self.assertEqual(found, [(1, "up", "fits", "turns"), (1, "up", "stays", "glue"), (1, "up", "less", None)])
        for thing in goals_of(wrong):
            if thing[0] in found:
                self.assert_broken((), thing)
        wrong = changed(JOBS, (1, 2, 4, 0, 3), (("in", var("j"), var("todo")),))
        found = [thing[0] for thing in goals_of(wrong) if paper_of(JOBS[0], thing) is None]
        self.assertEqual(found, [(2, "take", "stays", "glue")])
        wrong = changed(TANK, (1, 1, 4, 0, 5, 0, 1), num(4))
        found = [thing[0] for thing in goals_of(wrong) if paper_of((), thing) is None]
        self.assertEqual(found, [(1, "drop", "picks", "n"), (1, "drop", "guard", 0), (1, "drop", "guard", 1),
                                 (1, "drop", "does", "fill")])

    def test_the_least_ones(self):
        self.assertEqual(paper_of((), goal([], [], YES)), ("so",))
        self.assertEqual(paper_of((), goal([], [YES, NO], NO)), ("not", 1))
        self.assertEqual(paper_of((), goal([("p", TRUTH)], [("not", var("p"))], NO)[:2] + ((var("p"),), var("p"))),
                         ("split", ("p", None), (("not", 0), ("so",))))
        self.assertEqual(break_of((), goal([], [], NO)), {})
        self.assertEqual(break_of((), goal([("p", TRUTH)], [], var("p"))), {"p": False})

    def test_of_many_names_few_matter(self):
        sums = ("most", ("add", var("n7"), var("n40")), num(30))
        others = [("less", var(f"n{place}"), var(f"n{place + 1}")) for place in range(10, 38, 2)]
        self.assert_true((), goal(nums(60), [], sums), 17)
        self.assert_true((), goal(nums(60), others, sums), 17)
        self.assert_true((), goal(nums(60), others + [("same", var("n58"), num(3))], ("less", var("n58"), num(4))), 1)
        never = [("less", var("n50"), var("n51")), ("less", var("n51"), var("n50"))]
        self.assert_true((), goal(nums(60), others + never, ("less", ("add", var("n1"), ("add", var("n2"), var("n3"))),
            num(9))), 20)
        somes = [(f"s{number}", ("some", "jobs")) for number in range(60)]
        hyps = [("within", var(f"s{number}"), var(f"s{number + 1}")) for number in range(3)]
        self.assert_true(CARRIERS, goal(somes, hyps, ("within", var("s0"), var("s3"))), 200)
        self.assert_broken(CARRIERS, goal(somes, hyps, ("within", var("s3"), var("s0"))))

    def test_of_many_that_hang_together(self):
        # A sum that stays: only where all of it is known is any of it told.
        carriers = (("four", ("a", "b", "c", "d")),)
        kind = ("one", "four")
        names = [("m", ("map", "four", ("num", 15))), ("i", kind), ("j", kind)]

        def whole(table):
            return ("same", joined("add", *[("at", table, elem(member)) for member in "abcd"]), num(15))
        given = ("put", var("m"), var("i"), ("sub", ("at", var("m"), var("i")), num(1)))
        taken = ("put", given, var("j"), ("add", ("at", given, var("j")), num(1)))
        hyps = [whole(var("m")), less_than(num(0), table_at("i"))]
        self.assert_true(carriers, goal(names, hyps, whole(taken)))
        # Turns that wait for one another, round in a ring.
        names = nums(4)
        ring = [less_than(var(f"n{place}"), var(f"n{(place + 1) % 4}")) for place in range(4)]
        self.assert_true((), goal(names, ring, NO), 900)
        equal = [("same", var(f"n{place}"), var(f"n{place + 1}")) for place in range(3)]
        self.assert_true((), goal(names, equal, ("same", var("n0"), var("n3"))), 100)

    def test_expressions_as_deep_as_they_may_be(self):
        names = [P, ("n", ("num", 15)), S, ("m", ("map", "jobs", JOB)), J]
        inner = {word: var("p") for word in ("not", "and", "if", "each", "any")}
        for number in range(99):
            inner["not"] = ("not", inner["not"])
            inner["and"] = ("and", var("p"), inner["and"])
            inner["if"] = ("if", var("p"), inner["if"], var("p"))
            inner["each"] = ("each", f"x{number}'", TRUTH, inner["each"])
        for number in range(49):
            inner["any"] = ("any", f"x{number}", TRUTH, ("and", var(f"x{number}"), inner["any"]))
        total, some, table, by_put, by_all = var("n"), var("s"), var("m"), var("j"), var("j")
        for _ in range(98):
            total, some, table = ("add", total, var("n")), ("both", some, var("s")), ("put", table, var("j"), var("j"))
        for _ in range(49):
            by_put, by_all = ("at", ("put", var("m"), by_put, var("j")), elem("a")), ("at", ("all", "jobs", by_all),
                var("j"))
        inner.update({"add": less_than(total, num(9)), "both": ("within", some, var("s")),
                      "put": ("same", table, var("m")),
                      "at": ("same", by_put, var("j")), "all": ("same", by_all, var("j"))})
        for word, wish in inner.items():
            with self.subTest(word):
                thing = goal(names, [], wish)
                self.assertIsNone(need_goal(CARRIERS, thing))
                assert_told = self.assert_true if word in ("both", "all") else self.assert_broken
                assert_told(CARRIERS, thing)

    def test_a_paper_as_deep_as_there_are_cells(self):
        maps = [(f"m{number}", ("map", "four", TRUTH)) for number in range(60)]
        carriers = (("four", ("a", "b", "c", "d")),)
        hyps = [("same", var(f"m{number}"), ("all", "four", YES)) for number in range(60)]
        wish = joined("and", *[("at", var(f"m{number}"), elem(member)) for number in range(0, 60, 3)
                               for member in "abcd"])
        self.assert_true(carriers, goal(maps, hyps, wish), 240)
        self.assert_broken(carriers, goal(maps, hyps, ("not", wish)))

    def test_too_great_or_told(self):
        names = nums(8)
        one = joined("add", *[var(name) for name, _ in names])
        other = joined("add", *[var(name) for name, _ in reversed(names)])
        thing = goal(names, [], ("same", one, other))
        for asked in (paper_of, break_of):
            with self.assertRaises(OverflowError) as caught:
                asked((), thing)
            self.assertIs(type(caught.exception), TooGreat)
        # With fewer splits than are bounded it's never told.
        names = nums(4)
        one = joined("add", *[var(name) for name, _ in names])
        other = joined("add", *[var(name) for name, _ in reversed(names)])
        self.assert_true((), goal(names, [], ("same", one, other)), 4369)

    def test_what_is_told_is_the_askers_own(self):
        thing = goal([("p", TRUTH), ("s", ("some", "jobs"))], [], var("p"))
        state = break_of(CARRIERS, thing)
        state["p"] = "changed"
        state["more"] = 1
        self.assertEqual(break_of(CARRIERS, thing), {"p": False, "s": ()})

    def test_what_was_handed_in_is_as_it_was(self):
        for _, (names, hyps, wish) in TRUE_GOALS.items():
            thing = goal(names, hyps, wish, ([], {}, None, 1))
            ahead = copy.deepcopy(thing)
            paper_of(CARRIERS, thing)
            break_of(CARRIERS, thing)
            self.assertEqual(thing, ahead)


class AnyGoalTest(unittest.TestCase):
    """By chance, but by the same one each time: just one of both, as going through all STATES tells."""

    def test_paper_or_break(self):
        chance = random.Random(9)
        told = {True: 0, False: 0}
        for _ in range(500):
            names = self.some_names(chance)
            maker = Maker(chance, CARRIERS, dict(names))
            hyps = [maker.made("truth", chance.randint(1, 5), {}) for _ in range(chance.randint(0, 4))]
            thing = goal(names, hyps, maker.made("truth", chance.randint(2, 6), {}))
            if is_good(thing):
                told[self.assert_told_rightly(thing)] += 1
        self.assertGreater(min(told.values()), 60)

    def some_names(self, chance):
        names, many = [], 1
        for name in ("n", "m'", "s", "t", "u"):
            kind = Maker(chance, CARRIERS, {}).a_type()
            if many * len(all_values(CARRIERS, kind)) <= 200:
                names.append((name, kind))
                many *= len(all_values(CARRIERS, kind))
        return names

    def assert_told_rightly(self, thing):
        _, names, hyps, wish = thing
        breaks = [state for state in all_states(CARRIERS, names)
                  if all(worth(CARRIERS, hyp, state) for hyp in hyps) and not worth(CARRIERS, wish, state)]
        paper, state = paper_of(CARRIERS, thing), break_of(CARRIERS, thing)
        if len(breaks) == 0:
            self.assertIsNone(state, thing)
            self.assertEqual(check_paper(CARRIERS, thing, paper), count_splits(paper))
        else:
            self.assertIsNone(paper, thing)
            self.assertIn(state, breaks)
        return len(breaks) == 0


def is_good(thing):
    try:
        need_goal(CARRIERS, thing)
    except BadGoal:
        return False
    return True


def count_splits(paper):
    if paper[0] != "split":
        return 0
    return 1 + sum([count_splits(part) for part in paper[2]])


if __name__ == "__main__":
    unittest.main()
