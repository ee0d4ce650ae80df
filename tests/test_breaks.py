"""[12]: RUNS that BREAK a GOAL."""

import copy
import unittest

from faults import FAULTS, GOOD, IN_LOW, fault
from odd_things import odd_things
from plain_accounts import plain_account
from stairs import DEVELOPMENTS, JOBS, LAMP, changed
from stairwright.breaks import part_to, run_that_breaks
from stairwright.errors import BadModel, NoGoal, TooGreat
from stairwright.goals import goals_of
from stairwright.models import is_development
from stairwright.runs import following, is_run, starts
from words import NO, YES, joined, num, var


def up_model(most, broken_at, *params):
    """It goes up by one, and breaks "small" by the deed "up" once it's there."""
    return ((), ((
        "one", (("n", ("num", 15)), ("m", ("num", 15))), (("small", ("less", var("n"), num(broken_at))),),
        ((("be", "n", num(0)), ("be", "m", num(0))), ()),
        (("wait", None, params, (), (), ()),
         ("up", None, (), (("less", var("n"), num(most)),), (("be", "n", ("add", var("n"), num(1))),), ()),
         ("other", None, (), (), (("be", "m", ("sub", num(1), var("m"))),), ())),
        None),))


UP_GOAL = (0, "up", "stays", "small")


class RunThatBreaksTest(unittest.TestCase):
    def assert_breaks(self, development, goal, most, steps):
        """That the told run has so many STEPS, and breaks just that GOAL with the last one."""
        run = run_that_breaks(development, goal, most=most)
        part = part_to(development, goal[0])
        self.assertIs(is_run(part[0], part[1][-1], run), True)
        self.assertEqual(len(run[1]), steps)
        self.assertEqual(plain_account(part, run), (None, steps - 1, goal))

    def test_each_kind_of_goal(self):
        for name, (development, step, goal) in FAULTS.items():
            if step is None:
                continue
            with self.subTest(name):
                if goal[2] == "fits":
                    # Of LEVEL 0, whose own RUNS have no such STEP.
                    self.assertIsNone(run_that_breaks(development, goal, most=20))
                else:
                    steps = self.least_steps(development, goal)
                    self.assertLessEqual(steps, step + 1)
                    self.assert_breaks(development, goal, 20, steps)
                    self.assert_breaks(development, goal, steps, steps)
                    if steps > 1:
                        self.assertIsNone(run_that_breaks(development, goal, most=steps - 1))

    def least_steps(self, development, goal):
        """How many STEPS a RUN that breaks it has at least, by going through all RUNS."""
        part = part_to(development, goal[0])
        carriers, model = part[0], part[1][-1]
        runs = [(state, ()) for state in starts(carriers, model)]
        for steps in range(1, 21):
            met = {}
            for first, ahead in runs:
                state = ahead[-1][2] if ahead else first
                for step in following(carriers, model, state):
                    run = (first, (*ahead, step))
                    account, broken, which = plain_account(part, run)
                    if which == goal and broken == steps - 1:
                        return steps
                    if which is None:
                        # One RUN for all that come to one STATE of all LEVELS.
                        met[repr([part[2] for part in account[1][-1]])] = run
            runs = list(met.values())
        return None

    def test_true_goals(self):
        for development in (LAMP, GOOD):
            for goal in goals_of(development):
                if goal[0][1] not in ("start", None):
                    self.assertIsNone(run_that_breaks(development, goal[0], most=20))
        for which in [(0, "finish", "stays", "few"), (1, "ship", "guard", 0), (3, "put", "does", "last")]:
            self.assertIsNone(run_that_breaks(JOBS, which))

    def test_goals_that_no_run_breaks(self):
        # No STEP is by what would break them.
        full = changed(up_model(15, 16), (1, 0, 4, 1, 3), ())
        self.assertIsNone(run_that_breaks(full, (0, "up", "fits", "n"), most=20))
        none = fault((IN_LOW + (4, 0, 4, 2, 2), ("none", "jobs")))
        self.assertIsNone(run_that_breaks(none, (1, "go", "has", "r"), most=20))
        # That isn't True at STATES to which no RUN comes.
        hidden = changed(up_model(15, 9), (1, 0, 4, 1, 3), (("less", var("n"), num(5)),))
        hidden = changed(hidden, (1, 0, 2, 0, 1), ("or", ("less", var("n"), num(9)), ("less", num(0), var("m"))))
        self.assertIsNone(run_that_breaks(hidden, UP_GOAL, most=20))

    def test_how_many_steps(self):
        for steps in range(1, 16):
            development = up_model(15, steps)
            self.assert_breaks(development, UP_GOAL, 20, steps)
            self.assert_breaks(development, UP_GOAL, steps, steps)
            if steps > 1:
                self.assertIsNone(run_that_breaks(development, UP_GOAL, most=steps - 1))
            if steps <= 6:
                self.assertEqual(len(run_that_breaks(development, UP_GOAL)[1]), steps)
            else:
                self.assertIsNone(run_that_breaks(development, UP_GOAL))

    def test_another_goal_ends_a_run(self):
        # Where "first" is broken no RUN goes on, so "small" is broken by one that comes there otherwise.
        development = up_model(15, 4)
        development = changed(development, (1, 0, 2), (
            ("first", ("then", ("less", num(2), var("n")), ("same", var("m"), num(1)))), development[1][0][2][0]))
        self.assert_breaks(development, UP_GOAL, 20, 5)
        self.assertIn("other", [step[0] for step in run_that_breaks(development, UP_GOAL)[1]])
        self.assert_breaks(development, (0, "up", "stays", "first"), 20, 3)
        self.assertIsNone(run_that_breaks(changed(development, (1, 0, 2, 0, 1), ("less", var("n"), num(3))), UP_GOAL))

    def test_a_start_that_is_broken(self):
        development = changed(up_model(15, 3), (1, 0, 2), (("never", NO),))
        self.assertIsNone(run_that_breaks(development, (0, "up", "stays", "never"), most=20))

    def test_a_goal_of_a_level_above(self):
        development, _, goal = FAULTS["stays above"]
        # By the MODEL of that LEVEL alone, whatever those below do.
        self.assertEqual(goal[0], 0)
        self.assert_breaks(development, goal, 6, 2)
        four = changed(JOBS, (1, 1, 2, 0, 1), YES)
        self.assertIsNone(run_that_breaks(four, (0, "finish", "stays", "few")))
        self.assert_breaks(changed(JOBS, (1, 0, 2, 0, 1), ("less", ("count", var("done")), num(2))),
                           (0, "finish", "stays", "few"), 6, 2)
        self.assert_breaks(changed(JOBS, (1, 1, 2, 0, 1), ("same", ("at", var("work"), ("elem", "a")), num(0))),
                           (1, "do", "stays", "glue"), 6, 1)

    def test_more_states_than_are_looked_at(self):
        names = "abcdef"
        ups = tuple(("up" + name, None, (), (("less", var(name), num(15)),),
                     (("be", name, ("add", var(name), num(1))),),
                     ()) for name in names)
        great = ((), ((
            "one", tuple((name, ("num", 15)) for name in names),
            (("sum", ("most", joined("add", *[var(name) for name in names]), num(18))),),
            (tuple(("be", name, num(0)) for name in names), ()), ups, None),))
        with self.assertRaises(OverflowError) as caught:
            run_that_breaks(great, (0, "upa", "stays", "sum"), most=20)
        self.assertIs(type(caught.exception), TooGreat)
        # Of up to so few STEPS there aren't as many.
        self.assertIsNone(run_that_breaks(great, (0, "upa", "stays", "sum")))
        few = changed(great, (1, 0, 4), ups[:4])
        self.assert_breaks(few, (0, "upa", "stays", "sum"), 20, 19)

    def test_each_state_is_looked_at_once(self):
        # Without end there are RUNS, and ways to go on.
        development = up_model(15, 16, ("p", ("num", 15)), ("q", ("num", 7)))
        self.assertIsNone(run_that_breaks(development, UP_GOAL, most=20))

    def assert_no_goal(self, development, thing):
        for most in (1, 6, 20):
            with self.assertRaises(LookupError) as caught:
                run_that_breaks(development, thing, most=most)
            self.assertIs(type(caught.exception), NoGoal)

    def test_no_goal(self):
        for development in DEVELOPMENTS.values():
            for goal in goals_of(development):
                if goal[0][1] in ("start", None):
                    self.assert_no_goal(development, goal[0])
        for thing in odd_things() + [
                (1, "up", "stays", "other"), (0, "up", "stays", "glue"), (1, "up", "has", "turns"),
            (1, "up", "live", None),
                (True, "up", "stays", "glue"), [1, "up", "stays", "glue"], (1, "up", "stays"), goals_of(LAMP)[2]]:
            self.assert_no_goal(LAMP, thing)

    def test_no_development(self):
        for thing in odd_things() + [((), ()), LAMP[1]]:
            for goal in (UP_GOAL, None, (0, "start", "stays", "small")):
                with self.assertRaises(ValueError) as caught:
                    run_that_breaks(thing, goal)
                self.assertIs(type(caught.exception), BadModel)

    def test_what_is_told_is_the_askers_own(self):
        development = up_model(15, 3)
        run = run_that_breaks(development, UP_GOAL)
        run[0]["n"] = 9
        run[1][0][2]["n"] = 9
        self.assert_breaks(development, UP_GOAL, 6, 3)

    def test_what_was_handed_in_is_as_it_was(self):
        development = up_model(15, 3)
        ahead = copy.deepcopy(development)
        run_that_breaks(development, UP_GOAL)
        self.assertEqual(development, ahead)

    def test_by_the_names_of_its_arguments(self):
        run = run_that_breaks(goal=UP_GOAL, development=up_model(15, 2), most=2)
        self.assertEqual(run, ({"n": 0, "m": 0}, (("up", (), {"n": 1, "m": 0}), ("up", (), {"n": 2, "m": 0}))))
        with self.assertRaises(TypeError):
            run_that_breaks(up_model(15, 2), UP_GOAL, 2)


class PartToTest(unittest.TestCase):
    def test_each_level(self):
        for carriers, models in DEVELOPMENTS.values():
            for level in range(len(models)):
                part = part_to((carriers, models), level)
                self.assertEqual(part, (carriers, models[:level + 1]))
                self.assertIs(is_development(part), True)

    def test_by_the_names_of_its_arguments(self):
        self.assertEqual(part_to(level=0, development=LAMP), ((), LAMP[1][:1]))


if __name__ == "__main__":
    unittest.main()
