"""[15]: END TO END."""

import copy
import unittest

from faults import FAULTS, GOOD
from odd_things import odd_things
from stairs import JOBS, LAMP, SPOTS, TANK, changed
from stairwright.accounts import account_of
from stairwright.codes import made_code
from stairwright.ends import is_upheld, upheld
from stairwright.errors import BadModel, BadRun, Broken, NotMade, TooGreat
from stairwright.goals import goals_of
from stairwright.machine import run_of
from stairwright.papers import paper_of
from test_accounts import JOBS_ACCOUNT, LAMP_ACCOUNT, LAMP_RUN, others_of, part_at, paths_of, with_part
from words import NO, elem, joined, num, var


def n(number):
    return {"n": number}


def done(number):
    return {"done": number}


# It goes up to three and stops, and so does what is above it.
ODD = ("any", "h", ("num", 3), ("same", var("n"), ("add", num(1), ("mul", num(2), var("h")))))
COUNT_TOP = ("top", (("done", ("num", 3)),), (), ((("be", "done", num(0)),), ()),
             (("finish", None, (), (("less", var("done"), num(3)),), (("be", "done", ("add", var("done"), num(1))),),
               ()),),
             None)
COUNT_LOW = ("low", (("n", ("num", 6)),),
             (("glue", ("same", ("mul", num(2), var("done")), ("if", ODD, ("sub", var("n"), num(1)), var("n")))),),
             ((("be", "n", num(0)),), ()),
             (("half", None, (), (("not", ODD), ("less", var("n"), num(6))), (("be", "n", ("add", var("n"), num(1))),),
               ()),
              ("whole", "finish", (), (ODD, ("less", var("n"), num(6))), (("be", "n", ("add", var("n"), num(1))),),
               ())),
             ("sub", num(6), var("n")))
COUNT = ((), (COUNT_TOP, COUNT_LOW))
COUNT_RUN = (n(0), (("half", (), n(1)), ("whole", (), n(2)), ("half", (), n(3)), ("whole", (), n(4)),
                    ("half", (), n(5)),
                    ("whole", (), n(6))))
COUNT_ACCOUNT = ((done(0), n(0)), (
    ((None, (), done(0)), ("half", (), n(1))), (("finish", (), done(1)), ("whole", (), n(2))),
    ((None, (), done(1)), ("half", (), n(3))), (("finish", (), done(2)), ("whole", (), n(4))),
    ((None, (), done(2)), ("half", (), n(5))), (("finish", (), done(3)), ("whole", (), n(6))),
))


class UpheldTest(unittest.TestCase):
    def test_all_goals_are_true(self):
        for goal in goals_of(COUNT):
            self.assertIsNotNone(paper_of((), goal), goal[0])

    def test_written_out(self):
        for marks in range(10):
            told = ((COUNT_RUN[0], COUNT_RUN[1][:marks]), (COUNT_ACCOUNT[0], COUNT_ACCOUNT[1][:marks]), marks > 6)
            self.assertEqual(upheld(COUNT, marks=marks), told)
            self.assertIs(is_upheld(COUNT, told, marks=marks), True)
        self.assertEqual(upheld(COUNT), (COUNT_RUN, COUNT_ACCOUNT, True))
        self.assertEqual(upheld(COUNT, marks=200), (COUNT_RUN, COUNT_ACCOUNT, True))
        self.assertEqual(upheld(LAMP, marks=4), (LAMP_RUN, LAMP_ACCOUNT, False))
        self.assertEqual(upheld(JOBS, marks=7)[1:], (JOBS_ACCOUNT, False))
        self.assertEqual(upheld(JOBS, marks=1)[1], (JOBS_ACCOUNT[0], JOBS_ACCOUNT[1][:1]))

    def test_as_of_its_parts(self):
        for development in (LAMP, JOBS, SPOTS, COUNT):
            for marks in (0, 1, 20, 200):
                run, account, stopped = upheld(development, marks=marks)
                self.assertEqual((run, stopped), run_of(development, made_code(development), marks=marks))
                self.assertEqual(account, account_of(development, run))
                self.assertIs(is_upheld(development, (run, account, stopped), marks=marks), True)
            self.assertEqual(upheld(development), upheld(development, marks=20))
            self.assertIs(is_upheld(development, upheld(development)), True)
            self.assertIs(is_upheld(development, upheld(development, marks=20)), True)

    def test_more_marks_begin_with_fewer(self):
        for development in (LAMP, JOBS, COUNT):
            run, account, _ = upheld(development, marks=30)
            for marks in range(30):
                fewer, shorter, _ = upheld(development, marks=marks)
                self.assertEqual((fewer[0], shorter[0]), (run[0], account[0]))
                self.assertEqual((fewer[1], shorter[1]), (run[1][:marks], account[1][:marks]))

    def test_broken(self):
        broken = 0
        for name, (development, step, goal) in FAULTS.items():
            made = changed(development, (1, 1, 3, 0, 4), ("be", "r", elem("a")))
            made = changed(made, (1, 1, 4, 0, 4), tuple(
                ("be", "r", var("r")) if action[0] == "from" else action for action in made[1][1][4][0][4]))
            with self.subTest(name):
                if goal is None:
                    self.assertEqual(len(upheld(made)[1][1]), 20)
                else:
                    with self.assertRaises(Broken) as caught:
                        upheld(made)
                    self.assertEqual((caught.exception.step, caught.exception.goal), (step, goal))
                    self.assertIs(is_upheld(made, None), False)
                    broken += 1
                    if step is not None:
                        self.assertEqual(len(upheld(made, marks=step)[1][1]), step)
        self.assertGreater(broken, 20)

    def test_where_a_deed_above_could_be_done(self):
        # It isn't live: what is below stops too early.
        short = changed(COUNT, (1, 1, 4, 0, 3, 1), ("less", var("n"), num(4)))
        short = changed(short, (1, 1, 4, 1, 3, 1), ("less", var("n"), num(4)))
        self.assertIsNone(paper_of((), goals_of(short)[-1]))
        told = upheld(short)
        self.assertEqual(told, ((n(0), COUNT_RUN[1][:4]), (COUNT_ACCOUNT[0], COUNT_ACCOUNT[1][:4]), True))
        self.assertIs(is_upheld(short, told), False)
        for marks, truth in [(0, True), (3, True), (4, True), (5, False), (20, False)]:
            self.assertIs(is_upheld(short, upheld(short, marks=marks), marks=marks), truth)

    def test_stopped_at_the_start(self):
        idle = changed(changed(COUNT, (1, 0, 3, 0, 0, 2), num(3)), (1, 1, 3, 0, 0, 2), num(6))
        told = upheld(idle)
        self.assertEqual(told, ((n(6), ()), ((done(3), n(6)), ()), True))
        self.assertIs(is_upheld(idle, told), True)
        self.assertIs(is_upheld(idle, told, marks=0), False)
        self.assertEqual(upheld(idle, marks=0), (*told[:2], False))

    def test_what_is_told_is_the_askers_own(self):
        run, account, _ = upheld(COUNT)
        run[0]["n"] = 5
        run[1][0][2]["n"] = 5
        self.assertEqual(account, COUNT_ACCOUNT)
        account[0][0]["done"] = 3
        account[1][0][1][2]["n"] = 3
        self.assertEqual(upheld(COUNT), (COUNT_RUN, COUNT_ACCOUNT, True))

    def test_by_the_names_of_their_arguments(self):
        self.assertEqual(upheld(development=COUNT, marks=0), ((n(0), ()), ((done(0), n(0)), ()), False))
        self.assertIs(is_upheld(thing=upheld(COUNT), development=COUNT), True)
        with self.assertRaises(TypeError):
            upheld(COUNT, 3)
        with self.assertRaises(TypeError):
            is_upheld(COUNT, None, 3)


class IsUpheldTest(unittest.TestCase):
    def assert_none(self, thing, **marks):
        self.assertIs(is_upheld(COUNT, thing, **marks), False, repr(thing)[:300])

    def test_one_thing_otherwise(self):
        told = upheld(COUNT)
        self.assertIs(is_upheld(COUNT, told), True)
        for path in paths_of(told):
            for other in others_of(part_at(told, path)):
                self.assert_none(with_part(told, path, other))

    def test_truths_and_marks(self):
        told = upheld(COUNT)
        for stopped in (False, 1, 0, None, "yes", [True]):
            self.assert_none((*told[:2], stopped))
        short = upheld(COUNT, marks=3)
        for stopped in (True, 0, None):
            self.assert_none((*short[:2], stopped), marks=3)
        self.assert_none(short)
        self.assert_none(short, marks=4)
        self.assert_none(told, marks=3)
        self.assert_none(told, marks=6)
        self.assertIs(is_upheld(COUNT, (*told[:2], False), marks=6), True)
        self.assertIs(is_upheld(COUNT, told, marks=7), True)

    def test_other_runs_than_the_codes(self):
        # A RUN of the MODEL with its ACCOUNT, but not the one of the CODE.
        both = ((), (("one", (("n", ("num", 3)),), (), ((("be", "n", num(0)),), ()), (
            ("up", None, (), (("less", var("n"), num(3)),), (("be", "n", ("add", var("n"), num(1))),), ()),
            ("down", None, (), (("less", num(0), var("n")),), (("be", "n", ("sub", var("n"), num(1))),), ())), None),))
        run = (n(0), (("up", (), n(1)), ("down", (), n(0))))
        self.assertIs(is_upheld(both, (run, account_of(both, run), False), marks=2), False)
        other, run = run, (n(0), (("up", (), n(1)), ("up", (), n(2))))
        self.assertIs(is_upheld(both, (run, account_of(both, run), False), marks=2), True)
        self.assertIs(is_upheld(both, (other, account_of(both, run), False), marks=2), False)
        self.assertIs(is_upheld(both, (run, account_of(both, other), False), marks=2), False)

    def test_accounts_that_are_not_led_by_helps(self):
        free = changed(SPOTS, (1, 1, 2), ())
        run, account, stopped = upheld(free, marks=2)
        other = {"left": "right", "right": "left"}
        turned = (({"spot": other[account[0][0]["spot"]]}, account[0][1]), tuple(
            (("move", (), {"spot": other[row[0][2]["spot"]]}), row[1]) for row in account[1]))
        self.assertNotEqual(turned, account)
        self.assertIs(is_upheld(free, (run, turned, stopped), marks=2), True)
        self.assertIs(is_upheld(SPOTS, (run, turned, stopped), marks=2), False)

    def test_things_of_any_kind(self):
        told = upheld(COUNT)
        for thing in odd_things() + [(), told[:2], told + (True,), list(told), told[::-1]]:
            self.assert_none(thing)
            self.assert_none((thing, *told[1:]))
            self.assert_none((told[0], thing, told[2]))
            if thing is not True:
                self.assert_none((*told[:2], thing))

    def test_what_was_handed_in_is_as_it_was(self):
        told = upheld(COUNT)
        handed = copy.deepcopy((COUNT, told))
        is_upheld(*handed)
        self.assertEqual(handed, (COUNT, told))


class RefusedTest(unittest.TestCase):
    def assert_refused(self, error, development, **marks):
        with self.assertRaises((ValueError, OverflowError)) as caught:
            upheld(development, **marks)
        self.assertIs(type(caught.exception), error)
        for thing in (None, (COUNT_RUN, COUNT_ACCOUNT, True)):
            with self.assertRaises((ValueError, OverflowError)) as caught:
                is_upheld(development, thing, **marks)
            self.assertIs(type(caught.exception), error)

    def test_no_development(self):
        for thing in odd_things() + [((), ()), ((), COUNT[1][1:]), ((), SPOTS[1])]:
            self.assert_refused(BadModel, thing)
            self.assert_refused(BadModel, thing, marks=0)

    def test_not_made(self):
        for development in (TANK, GOOD, (SPOTS[0], SPOTS[1][:1]), (JOBS[0], JOBS[1][:2])):
            self.assert_refused(NotMade, development)
            self.assert_refused(NotMade, development, marks=0)

    def test_too_great(self):
        none_so_great = ("less", num(99), joined("add", var("a"), var("b"), var("c"), var("d")))
        for name in "dcba":
            none_so_great = ("any", name, ("num", 15), none_so_great)
        up = ((), (("up", (("n", ("num", 15)), ("t", ("truth",))), (), ((("be", "n", num(2)), ("be", "t", NO)), ()), (
            ("round", None, (), (), (("be", "t", none_so_great),), ()),), None),))
        self.assert_refused(TooGreat, up, marks=1)
        self.assertEqual(upheld(up, marks=0), (({"n": 2, "t": False}, ()), (({"n": 2, "t": False},), ()), False))

    def test_a_deed_that_gives_no_value(self):
        beyond = changed(COUNT, (1, 1, 4, 1, 3, 1), ("less", var("n"), num(7)))
        beyond = changed(beyond, (1, 1, 4, 0, 3, 1), ("less", var("n"), num(7)))
        self.assert_refused(BadRun, beyond)
        self.assertEqual(upheld(beyond, marks=6), (COUNT_RUN, COUNT_ACCOUNT, False))
        self.assert_refused(BadRun, changed(COUNT, (1, 1, 3, 0, 0, 2), num(7)), marks=0)


if __name__ == "__main__":
    unittest.main()
