"""[8]: the GOALS of a DEVELOPMENT, written out, and their order."""

import copy
import unittest

from odd_things import odd_things
from stairs import DEVELOPMENTS, JOBS, JOB_SETS, LAMP, SPOTS, TANK, changed
from stairwright.errors import BadModel, NoGoal
from stairwright.goals import asked_anew, goal_of, goals_of
from words import NO, YES, elem, is_at, num, var

TRUTH, JOB = ("truth",), ("one", "jobs")
ALL_JOBS = ("every", "jobs")


def less_than(one, other):
    return ("less", one, other)


def within_num(expression, most):
    return ("and", ("most", num(0), expression), ("most", expression, num(most)))


ON, TURNS = ("on", TRUTH), ("turns", ("num", 3))
GLUE = ("same", var("on"), less_than(num(1), var("turns")))
UP_GUARD = ("or", ("same", var("turns"), num(0)), ("same", var("turns"), num(2)))
MORE_TURNS = ("add", var("turns"), num(1))
LAMP_GOALS = (
    ((1, "start", "fits", "turns"), (), (), within_num(num(0), 3)),
    ((1, "start", "stays", "glue"), (), (), ("same", NO, less_than(num(1), num(0)))),
    ((1, "up", "fits", "turns"), (ON, TURNS), (GLUE, UP_GUARD), within_num(MORE_TURNS, 3)),
    ((1, "up", "stays", "glue"), (ON, TURNS), (GLUE, UP_GUARD), ("same", var("on"), less_than(num(1), MORE_TURNS))),
    ((1, "up", "less", None), (ON, TURNS), (GLUE, UP_GUARD), (
        "and", less_than(("sub", num(3), MORE_TURNS), ("sub", num(3), var("turns"))),
        ("most", num(0), ("sub", num(3), MORE_TURNS)))),
    ((1, "snap", "fits", "turns"), (ON, TURNS), (GLUE, ("same", var("turns"), num(1))), within_num(num(2), 3)),
    ((1, "snap", "stays", "glue"), (ON, TURNS), (GLUE, ("same", var("turns"), num(1))),
     ("same", ("not", var("on")), less_than(num(1), num(2)))),
    ((1, "reset", "fits", "turns"), (ON, TURNS), (GLUE, ("same", var("turns"), num(3))), within_num(num(0), 3)),
    ((1, "reset", "stays", "glue"), (ON, TURNS), (GLUE, ("same", var("turns"), num(3))),
     ("same", ("not", var("on")), less_than(num(1), num(0)))),
    ((1, None, "live", None), (ON, TURNS), (GLUE, YES),
     ("or", ("or", UP_GUARD, ("same", var("turns"), num(1))), ("same", var("turns"), num(3)))),
)

SPOT, FLAG = ("spot", ("one", "spots")), ("flag", TRUTH)
SPOTS_GLUE = ("same", ("same", var("spot"), elem("left")), var("flag"))
EVERY_SPOT = ("every", "spots")
OTHER_SPOT = ("if", var("flag"), elem("right"), elem("left"))
SPOTS_GOALS = (
    ((0, "start", "has", "spot"), (("spot'", ("one", "spots")),), (), less_than(num(0), ("count", EVERY_SPOT))),
    ((0, "move", "has", "spot"), (SPOT, ("spot'", ("one", "spots"))), (), less_than(num(0), ("count", EVERY_SPOT))),
    ((1, "start", "helps", "spot"), (), (), ("in", elem("left"), EVERY_SPOT)),
    ((1, "start", "stays", "glue"), (), (), ("same", ("same", elem("left"), elem("left")), YES)),
    ((1, "swap", "helps", "spot"), (SPOT, FLAG), (SPOTS_GLUE,), ("in", OTHER_SPOT, EVERY_SPOT)),
    ((1, "swap", "stays", "glue"), (SPOT, FLAG), (SPOTS_GLUE,),
     ("same", ("same", OTHER_SPOT, elem("left")), ("not", var("flag")))),
    ((1, None, "live", None), (SPOT, FLAG), (SPOTS_GLUE, YES), YES),
)

FILL, TOLD, N, FAST = ("fill", ("num", 9)), ("told", TRUTH), ("n", ("num", 3)), ("fast", TRUTH)
EVEN = ("most", var("fill"), num(9))
KEPT = ("or", var("told"), less_than(var("fill"), num(9)))
POUR_GUARDS = (("most", ("add", var("fill"), var("n")), num(9)), ("or", var("fast"), less_than(var("n"), num(3))))
POURED = ("add", var("fill"), var("n"))
REST = ("sub", num(9), var("fill"))
DROP_HYPS = (EVEN, KEPT, less_than(var("fill"), num(8)))
LAST_HYPS = (EVEN, KEPT, ("same", var("fill"), num(8)), var("fast"))
TIP_HYPS = (EVEN, KEPT, less_than(num(8), var("fill")))
DROPPED = ("add", var("fill"), num(1))
TANK_GOALS = (
    ((0, "start", "fits", "fill"), (), (), within_num(num(0), 9)),
    ((0, "start", "stays", "even"), (), (), ("most", num(0), num(9))),
    ((0, "pour", "fits", "fill"), (FILL, N, FAST), (EVEN, *POUR_GUARDS), within_num(POURED, 9)),
    ((0, "pour", "stays", "even"), (FILL, N, FAST), (EVEN, *POUR_GUARDS), ("most", POURED, num(9))),
    ((0, "empty", "fits", "fill"), (FILL,), (EVEN,), within_num(num(0), 9)),
    ((0, "empty", "stays", "even"), (FILL,), (EVEN,), ("most", num(0), num(9))),
    ((1, "start", "does", "fill"), (), (), ("same", num(0), num(0))),
    ((1, "start", "fits", "fill"), (), (), within_num(num(0), 9)),
    ((1, "start", "stays", "kept"), (), (), ("or", NO, less_than(num(0), num(9)))),
    ((1, "drop", "picks", "n"), (FILL, TOLD), DROP_HYPS, within_num(num(1), 3)),
    ((1, "drop", "guard", 0), (FILL, TOLD), DROP_HYPS, ("most", ("add", var("fill"), num(1)), num(9))),
    ((1, "drop", "guard", 1), (FILL, TOLD), DROP_HYPS, ("or", NO, less_than(num(1), num(3)))),
    ((1, "drop", "does", "fill"), (FILL, TOLD), DROP_HYPS, ("same", DROPPED, DROPPED)),
    ((1, "drop", "fits", "fill"), (FILL, TOLD), DROP_HYPS, within_num(DROPPED, 9)),
    ((1, "drop", "stays", "kept"), (FILL, TOLD), DROP_HYPS, ("or", var("told"), less_than(DROPPED, num(9)))),
    ((1, "last", "picks", "n"), (FILL, TOLD, FAST), LAST_HYPS, within_num(REST, 3)),
    ((1, "last", "guard", 0), (FILL, TOLD, FAST), LAST_HYPS, ("most", ("add", var("fill"), REST), num(9))),
    ((1, "last", "guard", 1), (FILL, TOLD, FAST), LAST_HYPS, ("or", var("fast"), less_than(REST, num(3)))),
    ((1, "last", "does", "fill"), (FILL, TOLD, FAST), LAST_HYPS, ("same", num(9), ("add", var("fill"), REST))),
    ((1, "last", "fits", "fill"), (FILL, TOLD, FAST), LAST_HYPS, within_num(num(9), 9)),
    ((1, "last", "stays", "kept"), (FILL, TOLD, FAST), LAST_HYPS, ("or", YES, less_than(num(9), num(9)))),
    ((1, "tip", "does", "fill"), (FILL, TOLD), TIP_HYPS, ("same", num(0), num(0))),
    ((1, "tip", "fits", "fill"), (FILL, TOLD), TIP_HYPS, within_num(num(0), 9)),
    ((1, "tip", "stays", "kept"), (FILL, TOLD), TIP_HYPS, ("or", NO, less_than(num(0), num(9)))),
    ((1, None, "live", None), (FILL, TOLD),
     (EVEN, KEPT, ("or", ("any", "n", ("num", 3), ("any", "fast", TRUTH, ("and", *POUR_GUARDS))), YES)),
     ("or", ("or", less_than(var("fill"), num(8)),
             ("any", "fast", TRUTH, ("and", ("same", var("fill"), num(8)), var("fast")))),
      less_than(num(8), var("fill")))),
)


class WrittenOutTest(unittest.TestCase):
    def assert_goals(self, development, goals):
        found = goals_of(development)
        self.assertIs(type(found), tuple)
        self.assertEqual([goal[0] for goal in found], [goal[0] for goal in goals])
        for goal, wanted in zip(found, goals):
            with self.subTest(wanted[0]):
                self.assertEqual(goal, wanted)

    def test_new_deeds_a_variant_and_live(self):
        self.assert_goals(LAMP, LAMP_GOALS)

    def test_helps_for_what_from_gives(self):
        self.assert_goals(SPOTS, SPOTS_GOALS)

    def test_params_and_kept_variables(self):
        self.assert_goals(TANK, TANK_GOALS)

    def test_maps_from_and_keeps(self):
        work, done, last = ("work", ("map", "jobs", ("num", 2))), ("done", ("some", "jobs")), ("last", JOB)
        names = (done, last, work)
        few = ("most", ("count", var("done")), num(3))
        glue = ("each", "x", JOB, ("same", ("in", var("x"), var("done")), is_at(var("work"), var("x"), num(2))))
        in_last = ("in", var("last'"), ALL_JOBS)
        again_guard = ("each", "x", JOB, is_at(var("work"), var("x"), num(2)))
        nothing = ("all", "jobs", num(0))
        shipped = ("put", var("work"), var("j"), num(2))

        def fits(expression):
            return ("each", "work'", JOB, within_num(("at", expression, var("work'")), 2))

        def glue_of(table, some):
            return ("each", "x", JOB, ("same", ("in", var("x"), some), is_at(table, var("x"), num(2))))
        wanted = {
            (1, "start", "does", "last"): ((("last'", JOB),), (in_last,), in_last),
            (1, "start", "fits", "work"): ((("last'", JOB),), (in_last,), fits(nothing)),
            (1, "start", "has", "last"): ((("last'", JOB),), (), less_than(num(0), ("count", ALL_JOBS))),
            (1, "start", "stays", "glue"): ((("last'", JOB),), (in_last,), glue_of(nothing, ("none", "jobs"))),
            (1, "ship", "guard", 0): ((*names, ("j", JOB)), (few, glue, is_at(var("work"), var("j"), num(1))),
                                      ("not", ("in", var("j"), var("done")))),
            (1, "ship", "does", "last"): ((*names, ("j", JOB)), (few, glue, is_at(var("work"), var("j"), num(1))),
                                          ("same", var("j"), var("j"))),
            (1, "ship", "fits", "work"): ((*names, ("j", JOB)), (few, glue, is_at(var("work"), var("j"), num(1))),
                                          fits(shipped)),
            (1, "ship", "stays", "glue"): ((*names, ("j", JOB)), (few, glue, is_at(var("work"), var("j"), num(1))),
                                           glue_of(shipped, ("either", var("done"), ("just", var("j"))))),
            (1, "again", "guard", 0): ((*names, ("last'", JOB)), (few, glue, again_guard, in_last),
                                       ("same", ("count", var("done")), num(3))),
            (1, "again", "does", "last"): ((*names, ("last'", JOB)), (few, glue, again_guard, in_last), in_last),
            (1, "again", "has", "last"): ((*names, ("last'", JOB)), (few, glue, again_guard),
                                          less_than(num(0), ("count", ALL_JOBS))),
            (1, "again", "stays", "glue"): ((*names, ("last'", JOB)), (few, glue, again_guard, in_last),
                                            glue_of(nothing, ("none", "jobs"))),
        }
        for which, rest in wanted.items():
            with self.subTest(which):
                self.assertEqual(goal_of(JOBS, which), (which, *rest))

    def test_keeps(self):
        lamp = changed(LAMP, (1, 1, 1), (("on", TRUTH), TURNS))
        lamp = changed(lamp, (1, 1, 3, 0), (("be", "on", NO), ("be", "turns", num(0))))
        lamp = changed(lamp, (1, 1, 4, 0, 4), (("be", "on", less_than(num(5), var("turns"))),
                                               ("be", "turns", MORE_TURNS)))
        found = goal_of(lamp, (1, "up", "keeps", "on"))
        self.assertEqual(found[1:], ((ON, TURNS), (GLUE, UP_GUARD),
                                     ("same", less_than(num(5), var("turns")), var("on"))))
        ids = [goal[0][1:] for goal in goals_of(lamp) if goal[0][:2] == (1, "up")]
        self.assertEqual(ids, [("up", "keeps", "on"), ("up", "fits", "turns"), ("up", "stays", "glue"),
                               ("up", "less", None)])
        # A KEPT one that isn't given stays itself, and "does" asks for what it is then.
        self.assertEqual(goal_of(lamp, (1, "snap", "does", "on"))[3], ("same", var("on"), ("not", var("on"))))
        # Of a deed that isn't new, of what those above don't give.
        tank = changed(TANK, (1, 1, 4, 0, 1), "still")
        tank = changed(tank, (1, 0, 4, 0), ("still", None, (), (), (), ()))
        tank = changed(changed(tank, (1, 1, 4, 0, 5), ()), (1, 1, 4, 1),
                       ("other", None, (), (), (("be", "told", NO),), ()))
        self.assertEqual(goal_of(tank, (1, "drop", "keeps", "fill"))[3], ("same", DROPPED, var("fill")))
        self.assertEqual([goal[0][2] for goal in goals_of(tank) if goal[0][:2] == (1, "other")], ["stays"])

    def test_keeps_by_from(self):
        spots = changed(SPOTS, (1, 1), ("low", (SPOT,), (), ((("from", "spot", EVERY_SPOT),), ()), (
            ("roam", None, (), (), (("from", "spot", EVERY_SPOT),), ()),), None))
        found = goal_of(spots, (1, "roam", "keeps", "spot"))
        self.assertEqual(found[1:], ((SPOT, ("spot'", SPOT[1])), (("in", var("spot'"), EVERY_SPOT),),
                                     ("same", var("spot'"), var("spot"))))
        self.assertEqual(goal_of(spots, (1, "start", "does", "spot"))[3], ("in", var("spot'"), EVERY_SPOT))

    def test_what_params_of_the_deed_above_become(self):
        take = JOBS[1][3][4][0]
        self.assertEqual(take[5], (("j", elem("a")),))
        self.assertEqual(goal_of(JOBS, (3, "takea", "guard", 0))[3], ("in", elem("a"), var("todo")))
        self.assertEqual(goal_of(JOBS, (3, "takea", "does", "held"))[3], ("same", elem("a"), elem("a")))
        self.assertEqual(goal_of(JOBS, (3, "put", "does", "last"))[3], ("same", var("held"), var("held")))
        # No "picks" of a PARAM that is no number.
        self.assertEqual([goal[0][2] for goal in goals_of(JOBS) if goal[0][2] == "picks"], [])

    def test_params_of_ones_own(self):
        last = TANK[1][1][4][1]
        tank = changed(TANK, (1, 1, 4, 1), (*last[:2], (("n", ("num", 3)), FAST), *last[3:5], ()))
        self.assertEqual([goal[0][2] for goal in goals_of(tank) if goal[0][1] == "last" and goal[0][2] == "picks"], [])
        self.assertEqual(goal_of(tank, (1, "last", "guard", 0))[1], (FILL, TOLD, N, FAST))
        self.assertEqual(goal_of(tank, (1, "last", "guard", 0))[3], POUR_GUARDS[0])
        self.assertEqual(goal_of(tank, (1, "last", "does", "fill"))[3], ("same", num(9), POURED))

    def test_names_and_hyps_of_all_levels_above(self):
        names = goal_of(JOBS, (3, "put", "guard", 0))[1]
        self.assertEqual([name for name, _ in names], ["done", "last", "work", "todo", "held", "busy", "next"])
        hyps = goal_of(JOBS, (3, "put", "guard", 0))[2]
        self.assertEqual(hyps, tuple([row[1] for model in JOBS[1] for row in model[2]]) + (var("busy"),))

    def test_live_of_several_params_and_guards(self):
        top = changed(LAMP[1][0], (4,), (
            ("one", None, (("i", JOB), ("k", ("num", 2))), (YES, var("on"), NO), (), ()),
            ("two", None, (("i", TRUTH),), (), (), ()),
            ("three", None, (), (var("on"),), (), ())))
        development = (JOB_SETS, (top, changed(changed(top, (0,), "low"), (4,), top[4][2:])))
        first = ("any", "i", JOB, ("any", "k", ("num", 2), ("and", ("and", YES, var("on")), NO)))
        goal = goal_of(development, (1, None, "live", None))
        self.assertEqual(goal[2:], ((("or", ("or", first, ("any", "i", TRUTH, YES)), var("on")),), var("on")))

    def test_only_maps_of_numbers_and_numbers_fit(self):
        kinds = [("a1", ("num", 4), num(1)), ("b1", TRUTH, YES), ("c1", JOB, elem("a")),
                 ("d1", ("some", "jobs"), ALL_JOBS),
                 ("e1", ("map", "jobs", ("num", 4)), ("all", "jobs", num(1))),
                 ("f1", ("map", "jobs", TRUTH), ("all", "jobs", NO))]
        model = ("top", tuple((name, kind) for name, kind, _ in kinds), (),
                 (tuple(("be", name, worth) for name, _, worth in kinds), ()), (("idle", None, (), (), (), ()),), None)
        self.assertEqual([goal[0] for goal in goals_of((JOB_SETS, (model,)))],
                         [(0, "start", "fits", "a1"), (0, "start", "fits", "e1")])

    def test_several_from_in_one_deed(self):
        model = ("top", (("g", JOB), ("n", ("num", 3)), ("h", JOB)), (("l", ("same", var("g"), var("h"))),),
                 ((("from", "g", ALL_JOBS), ("be", "n", num(0)), ("from", "h", ("none", "jobs"))), ()),
                 (("roll", None, (("i", JOB),), (("in", var("i"), ALL_JOBS),),
                   (("from", "g", ("just", var("i"))), ("from", "h", ("just", var("g")))), ()),), None)
        goals = goals_of((JOB_SETS, (model,)))
        primed = (("g'", JOB), ("h'", JOB))
        hyps = (("in", var("g'"), ALL_JOBS), ("in", var("h'"), ("none", "jobs")))
        stays = ("same", var("g'"), var("h'"))
        inv, guard = ("same", var("g"), var("h")), ("in", var("i"), ALL_JOBS)
        names = (("g", JOB), ("n", ("num", 3)), ("h", JOB), ("i", JOB), *primed)
        self.assertEqual(goals, (
            ((0, "start", "has", "g"), primed, (), less_than(num(0), ("count", ALL_JOBS))),
            ((0, "start", "fits", "n"), primed, hyps, within_num(num(0), 3)),
            ((0, "start", "has", "h"), primed, (), less_than(num(0), ("count", ("none", "jobs")))),
            ((0, "start", "stays", "l"), primed, hyps, stays),
            ((0, "roll", "has", "g"), names, (inv, guard), less_than(num(0), ("count", ("just", var("i"))))),
            ((0, "roll", "has", "h"), names, (inv, guard), less_than(num(0), ("count", ("just", var("g"))))),
            ((0, "roll", "stays", "l"), names,
             (inv, guard, ("in", var("g'"), ("just", var("i"))), ("in", var("h'"), ("just", var("g")))), stays),
        ))

    def test_ids_are_unlike_and_by_levels(self):
        for development in DEVELOPMENTS.values():
            ids = [goal[0] for goal in goals_of(development)]
            self.assertEqual(len(set(ids)), len(ids))
            self.assertEqual([which[0] for which in ids], sorted(which[0] for which in ids))


class GoalOfTest(unittest.TestCase):
    def test_each_id(self):
        for development in DEVELOPMENTS.values():
            for goal in goals_of(development):
                self.assertEqual(goal_of(development, goal[0]), goal)

    def assert_none(self, thing):
        with self.assertRaises(LookupError) as caught:
            goal_of(TANK, thing)
        self.assertIs(type(caught.exception), NoGoal)

    def test_what_is_none(self):
        good = (1, "drop", "guard", 0)
        self.assertEqual(goal_of(TANK, good)[0], good)
        for thing in [(1, "drop", "guard", 2), (1, "drop", "guard", -1), (2, "drop", "guard", 0),
                      (0, "drop", "guard", 0),
                      (-1, "drop", "guard", 0), (1, "drip", "guard", 0), (1, "drop", "Guard", 0),
                      (1, "drop", "guard", "0"),
                      (1, "drop", "guard", None), (1, "drop", "guard", False), (True, "drop", "guard", 0),
                      (True, "drop", "guard", False),
                      ("1", "drop", "guard", 0), (1, "drop", "guard"), (*good, None), (*good, 0), list(good), [good],
                      (good,), (),
                      (1, None, "guard", 0), (1, "start", "live", None), (0, None, "live", None),
                      (True, None, "live", None),
                      (1, ["drop"], "guard", 0), (1, "drop", ["guard"], 0), (1, "drop", "guard", [0]),
                      (1, "drop", "guard", (0,))]:
            with self.subTest(thing):
                self.assert_none(thing)

    def test_things_of_any_kind(self):
        for thing in odd_things() + [True, "other"]:
            self.assert_none(thing)
            for place in range(4):
                for good in ((1, "drop", "guard", 0), (1, None, "live", None)):
                    if not (thing is None and good[place] is None):
                        self.assert_none((*good[:place], thing, *good[place + 1:]))

    def test_the_error_keeps_what_was_asked(self):
        asked = [1, ["drop"]]
        with self.assertRaises(NoGoal) as caught:
            goal_of(TANK, asked)
        asked[1].append("more")
        self.assertEqual(caught.exception.goal, [1, ["drop"]])


class RefusedTest(unittest.TestCase):
    def assert_bad(self, place, asked, *things):
        with self.assertRaises(ValueError) as caught:
            asked(*things)
        self.assertIs(type(caught.exception), BadModel)
        self.assertEqual(caught.exception.place, place)

    def test_a_development_that_is_none(self):
        bad = changed(LAMP, (1, 1, 4, 1, 3), (num(1),))
        for asked in (goals_of, lambda thing: goal_of(thing, (1, "snap", "guard", 0)), lambda thing: goal_of(thing, []),
                      lambda thing: asked_anew(thing, LAMP), lambda thing: asked_anew(LAMP, thing),
                      lambda thing: asked_anew(thing, None)):
            self.assert_bad((1, "deed", 1), asked, bad)
            for thing in odd_things():
                if not (isinstance(thing, tuple) and len(thing) == 2):
                    self.assert_bad(("form",), asked, thing)

    def test_the_one_ahead_of_the_other(self):
        self.assert_bad(("carriers",), asked_anew, (None, LAMP[1]), [])
        self.assert_bad(("form",), asked_anew, [], (None, LAMP[1]))
        self.assert_bad(("carriers",), asked_anew, LAMP, (None, LAMP[1]))

    def test_by_the_names_of_their_arguments(self):
        self.assertEqual(goals_of(development=LAMP), LAMP_GOALS)
        self.assertEqual(goal_of(goal=(1, None, "live", None), development=LAMP), LAMP_GOALS[-1])
        self.assertEqual(asked_anew(other=LAMP, one=(LAMP[0], LAMP[1][:1])), asked_anew((LAMP[0], LAMP[1][:1]), LAMP))
        self.assertEqual(len(asked_anew(other=LAMP, one=(LAMP[0], LAMP[1][:1]))), 10)

    def test_what_was_handed_in_is_as_it_was(self):
        ahead = copy.deepcopy(TANK)
        goals_of(TANK)
        asked_anew(TANK, LAMP)
        self.assertEqual(TANK, ahead)


class AskedAnewTest(unittest.TestCase):
    def ids(self, development, *wanted):
        """The IDS of all its GOALS of which one of these is the beginning."""
        found = [goal[0] for goal in goals_of(development)]
        return tuple([which for which in found if any(which[:len(part)] == part for part in wanted)])

    def test_of_itself(self):
        for development in DEVELOPMENTS.values():
            self.assertEqual(asked_anew(development, development), ())
            self.assertEqual(asked_anew(development, eval(repr(development))), ())

    def test_guards_actions_and_helps(self):
        guards = changed(TANK, (1, 1, 4, 0, 3), (less_than(var("fill"), num(7)),))
        live = (1, None, "live", None)
        self.assertEqual(asked_anew(TANK, guards), self.ids(guards, (1, "drop"), live))
        self.assertEqual(asked_anew(guards, TANK), self.ids(TANK, (1, "drop"), live))
        actions = changed(TANK, (1, 1, 4, 0, 4, 0, 2), num(1))
        self.assertEqual(asked_anew(TANK, actions), ((1, "drop", "does", "fill"), (1, "drop", "fits", "fill"),
                                                     (1, "drop", "stays", "kept")))
        helps = changed(TANK, (1, 1, 4, 0, 5, 0, 1), num(2))
        self.assertEqual(asked_anew(TANK, helps), ((1, "drop", "picks", "n"), (1, "drop", "guard", 0),
                                                   (1, "drop", "guard", 1),
                                                   (1, "drop", "does", "fill")))

    def test_an_invariant(self):
        more = changed(TANK, (1, 0, 2), (*TANK[1][0][2], ("new", less_than(var("fill"), num(10)))))
        found = asked_anew(TANK, more)
        for which in found:
            self.assertTrue(which[1] != "start" or which[2:] == ("stays", "new"))
        self.assertEqual(found, tuple([goal[0] for goal in goals_of(more) if goal[0][1] != "start"
                                       or goal[0][2:] == ("stays", "new")]))

    def test_a_model_more_or_fewer(self):
        for many in (1, 2, 3):
            fewer = (JOBS[0], JOBS[1][:many])
            self.assertEqual(asked_anew(JOBS, fewer), ())
            there = [goal[1:] for goal in goals_of(fewer)]
            self.assertEqual(asked_anew(fewer, JOBS), tuple([goal[0] for goal in goals_of(JOBS)
                                                             if goal[1:] not in there]))
        # The second LEVEL's START has a GOAL of the first one's.
        self.assertNotIn((1, "start", "has", "last"), asked_anew((JOBS[0], JOBS[1][:1]), JOBS))
        self.assertIn((1, "start", "fits", "work"), asked_anew((JOBS[0], JOBS[1][:1]), JOBS))

    def test_what_only_has_another_name(self):
        # By NAMES, HYPS and WISH, not by the ID.
        other = changed(changed(TANK, (1, 1, 4, 0, 0), "other"), (1, 0, 2, 0, 0), "label")
        self.assertNotEqual(goals_of(TANK), goals_of(other))
        self.assertEqual(asked_anew(TANK, other), ())

    def test_a_start_and_a_variant(self):
        start = changed(LAMP, (1, 1, 3, 0, 0, 2), num(1))
        self.assertEqual(asked_anew(LAMP, start), ((1, "start", "fits", "turns"), (1, "start", "stays", "glue")))
        variant = changed(LAMP, (1, 1, 5), ("sub", num(4), var("turns")))
        self.assertEqual(asked_anew(LAMP, variant), ((1, "up", "less", None),))

    def test_where_only_types_of_names_are_others(self):
        wider = changed(LAMP, (1, 1, 1, 0, 1), ("num", 4))
        # Of START none but "fits": it has no NAMES.
        self.assertEqual(asked_anew(LAMP, wider), ((1, "start", "fits", "turns"),
                                                   *[goal[0] for goal in LAMP_GOALS[2:]]))
        found = goal_of(wider, (1, "snap", "stays", "glue"))
        self.assertEqual(found[2:], goal_of(LAMP, (1, "snap", "stays", "glue"))[2:])
        self.assertIn(found[0], asked_anew(LAMP, wider))

    def test_of_other_carriers(self):
        other = ((("jobs", ("a",)),), LAMP[1])
        self.assertEqual(asked_anew(LAMP, other), tuple([goal[0] for goal in LAMP_GOALS]))
        renamed = (((JOB_SETS[0][0], ("a", "b", "c")), ("spots", ("right", "left"))), JOBS[1])
        self.assertEqual(asked_anew(JOBS, renamed), tuple([goal[0] for goal in goals_of(JOBS)]))

    def test_of_another_one_altogether(self):
        self.assertEqual(asked_anew(SPOTS, LAMP), tuple([goal[0] for goal in LAMP_GOALS]))
        self.assertEqual(asked_anew(LAMP, ((), LAMP[1][:1])), ())


if __name__ == "__main__":
    unittest.main()
