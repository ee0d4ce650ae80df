"""[10]: RUNS, the STATES after START and the NEXT ones."""

import copy
import unittest

from odd_things import odd_things
from stairs import DEVELOPMENTS, JOBS, LAMP, changed
from stairwright.errors import BadRun, BadState
from stairwright.runs import following, is_run, run_by, starts
from words import NO, YES, elem, num, var

JOB, TRUTH = ("one", "jobs"), ("truth",)
SETS = JOBS[0]
BOARD, DESK, BENCH, LIST = JOBS[1]
ALL_JOBS = ("every", "jobs")


def model(variables, start, *deeds):
    """A MODEL without INVARIANTS, its START by the EXPRESSIONS of be or by ACTIONS."""
    actions = [action if action[0] == "from" else ("be", name, action) for (name, _), action in zip(variables, start)]
    return ("top", tuple(variables), (), (tuple(actions), ()), tuple(deeds), None)


def deed(name, params=(), guards=(), actions=()):
    return (name, None, tuple(params), tuple(guards), tuple(actions), ())


# A DEED with two from, and one with PARAMS.
ROLL = model(
    [("g", JOB), ("n", ("num", 2)), ("h", JOB)], [("from", "g", ALL_JOBS), num(0),
                                                  ("from", "h", ("but", ALL_JOBS, ("just", elem("b"))))],
    deed("roll", [], [("less", var("n"), num(2))],
         [("from", "g", ("but", ALL_JOBS, ("just", var("g")))), ("be", "n", ("add", var("n"), num(1))),
          ("from", "h", ("either", ("just", var("g")), ("just", var("h"))))]),
    deed("pick", [("i", JOB), ("up", TRUTH)], [("then", var("up"), ("same", var("n"), num(0)))],
         [("be", "g", var("i")), ("be", "n", ("if", var("up"), ("add", var("n"), num(2)), var("n")))]),
    deed("never", [], [NO], []),
)


class StartsTest(unittest.TestCase):
    def test_by_be_alone(self):
        self.assertEqual(starts((), LAMP[1][0]), [{"on": False}])
        self.assertEqual(starts((), LAMP[1][1]), [{"turns": 0}])
        self.assertEqual(starts(SETS, LIST), [{"next": 0, "held": "a", "busy": False, "last": "b"}])

    def test_by_from(self):
        self.assertEqual(starts(SETS, BOARD), [{"done": (), "last": job} for job in "abc"])
        self.assertEqual(starts(SETS, DESK), [{"work": (0, 0, 0), "last": job} for job in "abc"])

    def test_the_first_action_first(self):
        wanted = [{"g": first, "n": 0, "h": second} for first in "abc" for second in "ac"]
        self.assertEqual(starts(SETS, ROLL), wanted)
        self.assertEqual([list(state) for state in starts(SETS, ROLL)], [["g", "n", "h"]] * 6)

    def test_none(self):
        for kind, worth in [(("num", 3), num(4)), (("num", 3), ("sub", num(0), num(1))),
                            (("map", "jobs", ("num", 1)), ("all", "jobs", num(2))),
                            (("map", "jobs", ("num", 1)), ("put", ("all", "jobs", num(0)), elem("c"), num(2))),
                            (JOB, ("from", "v", ("none", "jobs")))]:
            self.assertEqual(starts(SETS, model([("v", kind), ("p", TRUTH)], [worth, YES], deed("idle"))), [])
        self.assertEqual(starts(SETS, model([("v", ("num", 3))], [num(3)], deed("idle"))), [{"v": 3}])

    def test_whatever_the_invariants_say(self):
        never = changed(LAMP[1][0], (2,), (("l", NO),))
        self.assertEqual(starts((), never), [{"on": False}])
        self.assertEqual(len(following((), never, {"on": False})), 1)
        self.assertIs(is_run((), never, ({"on": False}, (("flip", (), {"on": True}),))), True)


class FollowingTest(unittest.TestCase):
    def test_by_deeds_then_params(self):
        state = {"done": ("b",), "last": "b"}
        self.assertEqual(following(SETS, BOARD, state), [
            ("finish", ("a",), {"done": ("a", "b"), "last": "a"}),
            ("finish", ("c",), {"done": ("b", "c"), "last": "c"})])
        state = {"work": (2, 1, 0), "last": "a"}
        self.assertEqual(following(SETS, DESK, state), [
            ("do", ("c",), {"work": (2, 1, 1), "last": "a"}), ("ship", ("b",), {"work": (2, 2, 0), "last": "b"})])
        state = {"done": ("a", "b", "c"), "last": "b"}
        self.assertEqual(following(SETS, BOARD, state), [("again", (), {"done": (), "last": job}) for job in "abc"])

    def test_two_params_and_two_from(self):
        wanted = [("roll", (), {"g": first, "n": 1, "h": second}) for first in "ac" for second in "bc"]
        wanted += [("pick", (job, up), {"g": job, "n": 2 if up else 0, "h": "c"}) for job in "abc"
                   for up in (False, True)]
        self.assertEqual(following(SETS, ROLL, {"g": "b", "n": 0, "h": "c"}), wanted)
        wanted = [("pick", (job, False), {"g": job, "n": 2, "h": "a"}) for job in "abc"]
        self.assertEqual(following(SETS, ROLL, {"g": "b", "n": 2, "h": "a"}), wanted)

    def test_params_of_each_small_type(self):
        kinds = {"n": (("num", 3), [0, 1, 2, 3]), "p": (TRUTH, [False, True]), "j": (JOB, ["a", "b", "c"]),
                 "k": (("one", "spots"), ["left", "right"])}
        for name, (kind, values) in kinds.items():
            for other, (kind2, values2) in kinds.items():
                params = [("x", kind), ("y", kind2)]
                one = model([("v", TRUTH)], [NO], deed("pick", params, [], []))
                self.assertEqual(following(SETS, one, {"v": True}),
                                 [("pick", (x, y), {"v": True}) for x in values for y in values2])

    def test_as_often_as_there_is_a_way(self):
        one = model([("v", TRUTH)], [NO], deed("one", [("i", ("num", 2))]), deed("two"),
                    deed("three", [], [], [("be", "v", var("v"))]))
        same = {"v": False}
        self.assertEqual(following((), one, same), [("one", (0,), same), ("one", (1,), same), ("one", (2,), same),
                                                    ("two", (), same), ("three", (), same)])

    def test_values_beyond_their_types(self):
        one = model([("n", ("num", 3)), ("m", ("map", "jobs", ("num", 2)))], [num(0), ("all", "jobs", num(0))],
                    deed("add", [("i", ("num", 5))], [], [("be", "n", ("add", var("n"), var("i")))]),
                    deed("sub", [], [], [("be", "n", ("sub", var("n"), num(1)))]),
                    deed("put", [("i", ("num", 3))], [], [("be", "m", ("put", var("m"), elem("b"), var("i")))]))
        found = following(SETS, one, {"n": 2, "m": (0, 1, 2)})
        self.assertEqual([(name, worths) for name, worths, _ in found],
                         [("add", (0,)), ("add", (1,)), ("sub", ()), ("put", (0,)), ("put", (1,)), ("put", (2,))])
        found = following(SETS, one, {"n": 0, "m": (0, 1, 2)})
        self.assertEqual([name for name, _, _ in found], ["add"] * 4 + ["put"] * 3)

    def test_from_nothing(self):
        one = model([("j", JOB), ("k", JOB)], [elem("a"), elem("a")],
                    deed("both", [], [], [("from", "j", ALL_JOBS),
                                          ("from", "k", ("but", ALL_JOBS,
                                                         ("either", ("just", var("j")), ("just", var("k")))))]),
                    deed("none", [], [], [("from", "j", ("none", "jobs"))]))
        self.assertEqual(following(SETS, one, {"j": "a", "k": "b"}),
                         [("both", (), {"j": job, "k": "c"}) for job in "abc"])
        one = changed(one, (4, 0, 4, 1, 2), ("none", "jobs"))
        self.assertEqual(following(SETS, one, {"j": "a", "k": "b"}), [])

    def test_all_read_at_the_state_ahead(self):
        one = model([("n", ("num", 9)), ("m", ("num", 9))], [num(1), num(2)],
                    deed("swap", [], [], [("be", "n", var("m")), ("be", "m", var("n"))]))
        self.assertEqual(following((), one, {"n": 3, "m": 7}), [("swap", (), {"n": 7, "m": 3})])

    def test_what_is_no_state(self):
        good = {"done": ("b",), "last": "b"}
        self.assertEqual(len(following(SETS, BOARD, good)), 2)
        wrong = [{}, {"done": ("b",)}, {**good, "more": 1}, {**good, "last": "left"}, {**good, "last": None},
                 {**good, "done": ["b"]},
                 {**good, "done": ("b", "a")}, {"done": ("b",), "Last": "b"}, list(good.items()), [good], (good,),
                 None, "done", True, 0]
        for thing in wrong + odd_things() + [{**good, "done": thing} for thing in odd_things()]:
            with self.assertRaises(ValueError) as caught:
                following(SETS, BOARD, thing)
            self.assertIs(type(caught.exception), BadState)
        for thing in [{"on": 0}, {"on": 1}, {"on": None}]:
            with self.assertRaises(BadState):
                following((), LAMP[1][0], thing)

    def test_what_is_told_is_the_askers_own(self):
        state = {"v": False}
        one = model([("v", TRUTH)], [NO], deed("one"), deed("two"))
        found = following((), one, state)
        found[0][2]["v"] = "changed"
        self.assertEqual((state, found[1][2]), ({"v": False}, {"v": False}))
        self.assertEqual(following((), one, state), [("one", (), {"v": False}), ("two", (), {"v": False})])
        first = starts((), one)
        first[0]["v"] = "changed"
        first.append(1)
        self.assertEqual(starts((), one), [{"v": False}])

    def test_what_was_handed_in_is_as_it_was(self):
        state = {"g": "b", "n": 0, "h": "c"}
        ahead = copy.deepcopy((ROLL, state))
        following(SETS, ROLL, state)
        starts(SETS, ROLL)
        self.assertEqual((ROLL, state), ahead)

    def test_by_the_names_of_their_arguments(self):
        lamp = LAMP[1][0]
        self.assertEqual(starts(model=lamp, carriers=()), [{"on": False}])
        self.assertEqual(following(state={"on": True}, model=lamp, carriers=()), [("flip", (), {"on": False})])
        self.assertIs(is_run(thing=({"on": False}, ()), model=lamp, carriers=()), True)
        self.assertEqual(run_by(picks=[0, 0], model=lamp, carriers=()), ({"on": False}, (("flip", (), {"on": True}),)))


class IsRunTest(unittest.TestCase):
    def lamp_run(self, many):
        steps = [("flip", (), {"on": number % 2 == 0}) for number in range(many)]
        return ({"on": False}, tuple(steps))

    def test_how_many_steps(self):
        for many in (0, 1, 2, 199, 200):
            self.assertIs(is_run((), LAMP[1][0], self.lamp_run(many)), True)
        for many in (201, 202, 5000):
            self.assertIs(is_run((), LAMP[1][0], self.lamp_run(many)), False)

    def test_all_that_follow(self):
        for carriers, models in DEVELOPMENTS.values():
            for one in models:
                for state in starts(carriers, one):
                    self.assertIs(is_run(carriers, one, (state, ())), True)
                    for step in following(carriers, one, state):
                        self.assertIs(is_run(carriers, one, (state, (step,))), True)
                        for after in following(carriers, one, step[2]):
                            self.assertIs(is_run(carriers, one, (state, (step, after))), True)

    GOOD = ({"g": "a", "n": 0, "h": "c"}, (
        ("pick", ("b", False), {"g": "b", "n": 0, "h": "c"}), ("roll", (), {"g": "c", "n": 1, "h": "b"}),
        ("roll", (), {"g": "a", "n": 2, "h": "c"})))

    def assert_none(self, thing, one=ROLL):
        with self.subTest(repr(thing)[:200]):
            self.assertIs(is_run(SETS, one, thing), False)

    def with_state(self, step, **changes):
        """GOOD with changes of the STATE behind that step, of the first one where it's None."""
        if step is None:
            return ({**self.GOOD[0], **changes}, self.GOOD[1])
        return changed(self.GOOD, (1, step, 2), {**self.GOOD[1][step][2], **changes})

    def test_one_thing_otherwise(self):
        self.assertIs(is_run(SETS, ROLL, self.GOOD), True)
        for wrong in [
            self.with_state(None, h="b"), self.with_state(None, n=1), self.with_state(None, n=False),
            self.with_state(None, g="left"),
            self.with_state(None, more=1), self.with_state(0, g="c"), self.with_state(0, n=2),
            self.with_state(0, n=False), self.with_state(0, h="a"),
            self.with_state(1, g="b"), self.with_state(1, n=2), self.with_state(1, n=True), self.with_state(1, h="a"),
            self.with_state(2, g="c"),
            self.with_state(2, h="a"), self.with_state(2, n=3), self.with_state(2, g=["a"]), self.with_state(2, more=1),
        ]:
            self.assert_none(wrong)

    def test_deeds_and_worths(self):
        step = self.GOOD[1][0]
        for wrong in [("Pick", *step[1:]), ("roll", *step[1:]), ("never", *step[1:]), ("start", (), step[2]),
                      (None, *step[1:]), (["pick"], *step[1:]),
                      (True, *step[1:]), ("pick", (), step[2]), ("pick", ("b",), step[2]),
                      ("pick", ("b", False, 0), step[2]),
                      ("pick", ("b", True), step[2]), ("pick", ("b", 0), step[2]), ("pick", ["b", False], step[2]),
                      ("pick", ("left", False), step[2]),
                      ("pick", (False, "b"), step[2]), ("pick", None, step[2]), ("pick", ("b", None), step[2]),
                      ("pick", (["b"], False), step[2]),
                      step[:2], step + (1,), list(step), (), None, "pick"]:
            self.assert_none(changed(self.GOOD, (1, 0), wrong))
        self.assert_none(({"g": "a", "n": 0, "h": "c"}, (("never", (), {"g": "a", "n": 0, "h": "c"}),)))

    def test_a_deed_that_cannot_be_done(self):
        self.assert_none((self.GOOD[0], self.GOOD[1] + (("roll", (), {"g": "b", "n": 3, "h": "a"}),)))
        self.assert_none((self.GOOD[0], self.GOOD[1] + (("roll", (), {"g": "b", "n": 2, "h": "a"}),)))
        high = model([("n", ("num", 1))], [num(1)], deed("up", [], [], [("be", "n", ("add", var("n"), num(1)))]))
        for number in (0, 1, 2):
            self.assert_none(({"n": 1}, (("up", (), {"n": number}),)), high)

    def test_the_tuples(self):
        state, steps = self.GOOD
        for wrong in [(state,), (state, steps, ()), [state, steps], (state, list(steps)), (state, None),
                      (state, steps[0]), (list(state), steps),
                      (None, steps), (steps, state), state, steps, (), (state, {0: steps[0]}),
                      (tuple(state.items()), steps), (self.GOOD,)]:
            self.assert_none(wrong)

    def test_things_of_any_kind_at_any_place(self):
        for thing in odd_things() + [True, 0, (), {}]:
            for path in [(), (0,), (1, 0), (1, 1), (1, 0, 0), (1, 0, 1), (1, 0, 1, 0), (1, 2, 2)]:
                self.assert_none(changed(self.GOOD, path, thing))
            if not isinstance(thing, tuple) or len(thing) > 0:
                self.assert_none(changed(self.GOOD, (1,), thing))
            for name in ("g", "h"):
                self.assert_none(self.with_state(1, **{name: thing}))

    def test_what_was_handed_in_is_as_it_was(self):
        for thing in [self.GOOD, [self.GOOD], ({"a": []}, [])]:
            ahead = copy.deepcopy(thing)
            is_run(SETS, ROLL, thing)
            self.assertEqual(thing, ahead)


class RunByTest(unittest.TestCase):
    def plain_run(self, carriers, one, picks):
        """Word by word what [10] and the interface say."""
        first = starts(carriers, one)
        state, steps = first[picks[0] % len(first)], []
        begin = state
        for pick in picks[1:]:
            nexts = following(carriers, one, state)
            if len(nexts) == 0:
                break
            steps.append(nexts[pick % len(nexts)])
            state = steps[-1][2]
        return (begin, tuple(steps))

    def test_all_picks(self):
        for carriers, models in DEVELOPMENTS.values():
            for one in models:
                for first in range(5):
                    for second in range(12):
                        picks = [first, second, first * second, 7, 3, 10 ** 3999]
                        run = run_by(carriers, one, picks)
                        self.assertEqual(run, self.plain_run(carriers, one, picks))
                        self.assertIs(is_run(carriers, one, run), True)
        for first in range(7):
            for second in range(13):
                for third in range(13):
                    picks = (first, second, third)
                    self.assertEqual(run_by(SETS, ROLL, picks), self.plain_run(SETS, ROLL, picks))

    def test_the_order_of_names_in_states(self):
        state, steps = run_by(SETS, ROLL, [3, 1, 2])
        self.assertEqual([list(found) for found in (state, *[step[2] for step in steps])], [["g", "n", "h"]] * 3)

    def test_modulo_how_many_there_are(self):
        for pick in (1, 7, 6 * 10 ** 20 + 1):
            self.assertEqual(run_by(SETS, ROLL, [pick]), ({"g": "a", "n": 0, "h": "c"}, ()))
        self.assertEqual(run_by((), LAMP[1][0], (5, 10 ** 3999, 3)),
                         ({"on": False}, (("flip", (), {"on": True}), ("flip", (), {"on": False}))))

    def test_where_nothing_is_next(self):
        one = model([("n", ("num", 2))], [num(0)], deed("up", [], [], [("be", "n", ("add", var("n"), num(1)))]))
        run = ({"n": 0}, (("up", (), {"n": 1}), ("up", (), {"n": 2})))
        self.assertEqual(run_by((), one, [0] * 3), run)
        self.assertEqual(run_by((), one, [4] * 201), run)
        self.assertEqual(run_by((), one, [0]), ({"n": 0}, ()))

    def test_how_many_picks(self):
        for many in (1, 2, 200, 201):
            self.assertEqual(len(run_by((), LAMP[1][0], [0] * many)[1]), many - 1)
            self.assertEqual(len(run_by((), LAMP[1][0], (0,) * many)[1]), many - 1)

    def assert_refused(self, picks, one=LAMP[1][0]):
        with self.assertRaises(ValueError) as caught:
            run_by(SETS, one, picks)
        self.assertIs(type(caught.exception), BadRun)

    def test_what_are_no_picks(self):
        for picks in [[], (), [0] * 202, (0,) * 202, [0] * 20000, [True], [0, False], [-1], [0, -1], ["0"], [None],
                      [0, None], [[0]], [(0,)], "0", "00",
                      0, None, True, {0: 0}, {0}, range(3), b"00", [b"0"], [0, 10 ** 3999, -(10 ** 3999)]]:
            self.assert_refused(picks)
        for thing in odd_things():
            self.assert_refused(thing)
            if not isinstance(thing, int) or thing < 0:
                self.assert_refused([0, thing])

    def test_where_nothing_begins(self):
        for kind, worth in [(("num", 3), num(4)), (JOB, ("from", "v", ("none", "jobs")))]:
            one = model([("v", kind)], [worth], deed("idle"))
            for picks in ([0], [3, 1], (0,) * 201, [], None):
                self.assert_refused(picks, one)

    def test_many_ways(self):
        # Thousands of them at each step: they aren't all made.
        names = [f"v{number}" for number in range(6)]
        four = (("four", ("a", "b", "c", "d")),)
        actions = [("from", name, ("every", "four")) for name in names]
        one = model([(name, ("one", "four")) for name in names], actions,
                    *[deed(f"d{number}", [("p", ("num", 15)), ("q", ("num", 7))], [], actions) for number in range(6)])
        many = 6 * 16 * 8 * 4 ** 6
        run = run_by(four, one, [4 ** 6 - 1, many - 1, many + 1] + [10 ** 50 + number for number in range(198)])
        self.assertEqual(run[0], dict.fromkeys(names, "d"))
        self.assertEqual(run[1][0], ("d5", (15, 7), dict.fromkeys(names, "d")))
        self.assertEqual(run[1][1], ("d0", (0, 0), {**dict.fromkeys(names, "a"), "v5": "b"}))
        self.assertEqual(len(run[1]), 200)
        self.assertIs(is_run(four, one, run), True)

    def test_what_is_told_is_the_askers_own(self):
        one = model([("v", TRUTH)], [NO], deed("idle"))
        run = run_by((), one, [0, 0, 0])
        run[0]["v"] = "changed"
        run[1][0][2]["v"] = 5
        self.assertEqual(run[1][1], ("idle", (), {"v": False}))
        self.assertEqual(run_by((), one, [0, 0, 0])[0], {"v": False})

    def test_what_was_handed_in_is_as_it_was(self):
        picks = [3, 2, 1]
        run_by(SETS, ROLL, picks)
        self.assertEqual(picks, [3, 2, 1])


if __name__ == "__main__":
    unittest.main()
