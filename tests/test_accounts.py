"""[11]: ACCOUNTS led by HELPS, what breaks them, and which others are ACCOUNTS."""

import copy
import random
import unittest

from faults import FAULTS, GOOD, IN_LOW, fault
from odd_things import NotCompared, SameAsAll, odd_things
from plain_accounts import plain_account
from stairs import DEVELOPMENTS, JOBS, LAMP, SPOTS, TANK, changed
from stairwright.accounts import account_of, check_account
from stairwright.errors import BadModel, BadRun, Broken
from stairwright.goals import goals_of
from stairwright.papers import paper_of
from stairwright.runs import run_by
from words import NO, YES, num, var


def lamp(on):
    return {"on": on}


def turns(number):
    return {"turns": number}


LAMP_RUN = (turns(0), (("up", (), turns(1)), ("snap", (), turns(2)), ("up", (), turns(3)), ("reset", (), turns(0))))
LAMP_ACCOUNT = ((lamp(False), turns(0)), (
    ((None, (), lamp(False)), ("up", (), turns(1))),
    (("flip", (), lamp(True)), ("snap", (), turns(2))),
    ((None, (), lamp(True)), ("up", (), turns(3))),
    (("flip", (), lamp(False)), ("reset", (), turns(0))),
))

SPOTS_RUN = ({"flag": True}, (("swap", (), {"flag": False}), ("swap", (), {"flag": True})))
SPOTS_ACCOUNT = (({"spot": "left"}, {"flag": True}), (
    (("move", (), {"spot": "right"}), ("swap", (), {"flag": False})),
    (("move", (), {"spot": "left"}), ("swap", (), {"flag": True})),
))


def fill(number):
    return {"fill": number}


def drip(number, told=False):
    return {"fill": number, "told": told}


# A PARAM by HELPS, a PARAM that both have.
TANK_RUN = (drip(0), tuple(("drop", (), drip(number)) for number in range(1, 9)) + (
    ("last", (True,), drip(9, True)), ("tip", (), drip(0))))
TANK_ACCOUNT = ((fill(0), drip(0)), tuple(
    (("pour", (1, False), fill(number)), ("drop", (), drip(number))) for number in range(1, 9)) + (
    (("pour", (1, True), fill(9)), ("last", (True,), drip(9, True))), (("empty", (), fill(0)), ("tip", (), drip(0)))))


def jobs_row(board, desk, bench, low):
    return tuple(zip(("board", "desk", "bench", "list"), (board, desk, bench, low)))


def board(done, last):
    return {"done": tuple(done), "last": last}


def desk(work, last):
    return {"work": work, "last": last}


def bench(todo, held, busy, last):
    return {"todo": tuple(todo), "held": held, "busy": busy, "last": last}


def at_list(number, held, busy, last):
    return {"next": number, "held": held, "busy": busy, "last": last}


JOBS_ACCOUNT = (
    (board("", "b"), desk((0, 0, 0), "b"), bench("abc", "a", False, "b"), at_list(0, "a", False, "b")), (
        ((None, (), board("", "b")), ("do", ("a",), desk((1, 0, 0), "b")),
         ("take", ("a",), bench("bc", "a", True, "b")), ("takea", (), at_list(1, "a", True, "b"))),
        (("finish", ("a",), board("a", "a")), ("ship", ("a",), desk((2, 0, 0), "a")),
         ("put", (), bench("bc", "a", False, "a")), ("put", (), at_list(1, "a", False, "a"))),
        ((None, (), board("a", "a")), ("do", ("b",), desk((2, 1, 0), "a")),
         ("take", ("b",), bench("c", "b", True, "a")), ("takeb", (), at_list(2, "b", True, "a"))),
        (("finish", ("b",), board("ab", "b")), ("ship", ("b",), desk((2, 2, 0), "b")),
         ("put", (), bench("c", "b", False, "b")), ("put", (), at_list(2, "b", False, "b"))),
        ((None, (), board("ab", "b")), ("do", ("c",), desk((2, 2, 1), "b")),
         ("take", ("c",), bench("", "c", True, "b")), ("takec", (), at_list(3, "c", True, "b"))),
        (("finish", ("c",), board("abc", "c")), ("ship", ("c",), desk((2, 2, 2), "c")),
         ("put", (), bench("", "c", False, "c")), ("put", (), at_list(3, "c", False, "c"))),
        (("again", (), board("", "b")), ("again", (), desk((0, 0, 0), "b")),
         ("again", (), bench("abc", "c", False, "b")), ("again", (), at_list(0, "c", False, "b"))),
    ))
JOBS_RUN = (JOBS_ACCOUNT[0][3], tuple(row[3] for row in JOBS_ACCOUNT[1]))

WRITTEN = {
    "lamp": (LAMP, LAMP_RUN, LAMP_ACCOUNT), "spots": (SPOTS, SPOTS_RUN, SPOTS_ACCOUNT),
    "tank": (TANK, TANK_RUN, TANK_ACCOUNT), "jobs": (JOBS, JOBS_RUN, JOBS_ACCOUNT),
}


def part_to(development, level):
    return (development[0], development[1][:level + 1])


def chance_run(development, seed, steps):
    chance = random.Random(seed)
    return run_by(development[0], development[1][-1], [chance.randrange(10 ** 6) for _ in range(steps + 1)])


class AccountOfTest(unittest.TestCase):
    def test_written_out(self):
        for name, (development, run, account) in WRITTEN.items():
            with self.subTest(name):
                self.assertEqual(account_of(development, run), account)
                self.assertIs(check_account(development, run, account), True)

    def test_of_each_level(self):
        for name, (development, _, account) in WRITTEN.items():
            for level in range(len(development[1])):
                states, rows = account
                # A STEP of None is no STEP of a RUN of that LEVEL.
                rows = tuple(row[:level + 1] for row in rows if row[level][0] is not None)
                run = (states[level], tuple(row[level] for row in rows))
                with self.subTest(name, level=level):
                    told = account_of(part_to(development, level), run)
                    self.assertEqual(told, (states[:level + 1], rows))
                    self.assertIs(check_account(part_to(development, level), run, told), True)

    def test_the_beginning_of_a_run(self):
        for development, run, account in WRITTEN.values():
            for many in range(len(run[1]) + 1):
                self.assertEqual(account_of(development, (run[0], run[1][:many])), (account[0], account[1][:many]))

    def test_by_another_hand(self):
        for name, development in {**DEVELOPMENTS, "good": GOOD}.items():
            for level in range(len(development[1])):
                part = part_to(development, level)
                for seed in range(8):
                    run = chance_run(part, seed, 12)
                    with self.subTest(name, level=level, seed=seed):
                        account = account_of(part, run)
                        self.assertEqual((account, None, None), plain_account(part, run))
                        self.assertIs(check_account(part, run, account), True)

    def test_no_steps_and_as_many_as_there_may_be(self):
        for development in DEVELOPMENTS.values():
            for steps in (0, 1, 199, 200):
                run = chance_run(development, 5, steps)
                self.assertEqual(len(run[1]), steps)
                states, rows = account_of(development, run)
                self.assertEqual((len(states), len(rows)), (len(development[1]), steps))
                self.assertIs(check_account(development, run, (states, rows)), True)

    def test_what_is_told_is_the_askers_own(self):
        run = copy.deepcopy(LAMP_RUN)
        account = account_of(LAMP, run)
        account[0][1]["turns"] = 3
        account[1][0][1][2]["turns"] = "changed"
        account[1][2][0][2]["on"] = "changed"
        self.assertEqual((run, account[1][1][0]), (LAMP_RUN, ("flip", (), lamp(True))))
        self.assertEqual(account_of(LAMP, run), LAMP_ACCOUNT)

    def test_what_was_handed_in_is_as_it_was(self):
        for development, run, account in WRITTEN.values():
            handed = copy.deepcopy((development, run, account))
            account_of(handed[0], handed[1])
            check_account(*handed)
            self.assertEqual(handed, (development, run, account))

    def test_by_the_names_of_their_arguments(self):
        self.assertEqual(account_of(run=LAMP_RUN, development=LAMP), LAMP_ACCOUNT)
        self.assertIs(check_account(account=LAMP_ACCOUNT, run=LAMP_RUN, development=LAMP), True)


class BrokenTest(unittest.TestCase):
    def broken(self, development, run):
        with self.assertRaises(ValueError) as caught:
            account_of(development, run)
        self.assertIs(type(caught.exception), Broken)
        return (caught.exception.step, caught.exception.goal)

    def test_the_goals_of_the_one_without_faults(self):
        for goal in goals_of(GOOD):
            self.assertIsNotNone(paper_of(GOOD[0], goal), goal[0])

    def test_each_kind_of_goal(self):
        for name, (development, step, goal) in FAULTS.items():
            run = run_by(development[0], development[1][1], [0] * 21)
            with self.subTest(name):
                if goal is None:
                    self.assertEqual(len(account_of(development, run)[1]), 20)
                else:
                    self.assertEqual(self.broken(development, run), (step, goal))
                    self.assertEqual(self.broken(development, (run[0], run[1][:(step or 0) + 1])), (step, goal))
                self.assertEqual(plain_account(development, run)[1:], (step, goal))

    def test_ahead_of_it_there_is_an_account(self):
        for name, (development, step, _) in FAULTS.items():
            if step is not None:
                run = run_by(development[0], development[1][1], [0] * (step + 1))
                with self.subTest(name):
                    account = account_of(development, run)
                    self.assertEqual((account, None, None), plain_account(development, run))
                    self.assertIs(check_account(development, run, account), True)

    def test_one_level_alone(self):
        model = ("one", (("n", ("num", 5)),), (("small", ("most", var("n"), num(1))),), ((("be", "n", num(0)),), ()),
                 (("up", None, (), (), (("be", "n", ("add", var("n"), num(1))),), ()),), None)
        run = run_by((), model, [0] * 4)
        self.assertEqual(self.broken(((), (model,)), run), (1, (0, "up", "stays", "small")))
        model = changed(model, (2, 0, 1), ("less", num(0), var("n")))
        self.assertEqual(self.broken(((), (model,)), run), (None, (0, "start", "stays", "small")))

    def test_four_levels(self):
        for path, step, goal in [
            ((1, 0, 2, 0, 1), 3, (0, "finish", "stays", "few")),
            ((1, 1, 2, 0, 1), 0, (1, "do", "stays", "glue")),
            ((1, 2, 2, 0, 1), 0, (2, "take", "stays", "glue")),
            ((1, 3, 2, 0, 1), 0, (3, "takea", "stays", "glue")),
        ]:
            wish = ("less", ("count", var("done")), num(2)) if path[1] == 0 else {
                1: ("same", ("at", var("work"), ("elem", "a")), num(0)), 2: ("not", var("busy")),
                3: ("same", var("next"), num(0))}[path[1]]
            development = changed(JOBS, path, wish)
            self.assertEqual(self.broken(development, JOBS_RUN), (step, goal))
            self.assertEqual(plain_account(development, JOBS_RUN)[1:], (step, goal))
            # One of the lowest LEVEL is told ahead of it.
            lower = changed(development, (1, 3, 2, 0, 1), ("not", var("busy")))
            self.assertEqual(self.broken(lower, JOBS_RUN), (0, (3, "takea", "stays", "glue")))


class CheckAccountTest(unittest.TestCase):
    def assert_none(self, name, thing):
        development, run, _ = WRITTEN[name]
        self.assertIs(check_account(development, run, thing), False, repr(thing)[:300])

    def test_one_thing_otherwise(self):
        for name, (_, _, account) in WRITTEN.items():
            for path in paths_of(account):
                part = part_at(account, path)
                for other in others_of(part):
                    # What the PARAM fast is above, nothing rests on as long as n is small.
                    if name != "tank" or path[2:] != (0, 1, 1) or not isinstance(other, bool):
                        self.assert_none(name, with_part(account, path, other))

    def test_things_of_any_kind(self):
        for thing in odd_things():
            self.assert_none("lamp", thing)
            self.assert_none("lamp", (thing, thing))
            for path in [(0,), (1,), (0, 0), (0, 1), (1, 0), (1, 0, 0), (1, 0, 1), (1, 0, 0, 1), (1, 0, 0, 2),
                         (1, 1, 0, 0), (1, 1, 0, 2), (1, 1, 1, 1)]:
                self.assert_none("lamp", changed(LAMP_ACCOUNT, path, thing))
        for thing in (SameAsAll(), NotCompared()):
            self.assert_none("lamp", changed(LAMP_ACCOUNT, (0, 0), {"on": thing}))
            self.assert_none("lamp", changed(LAMP_ACCOUNT, (1, 0, 0, 2), {"on": thing}))
            self.assert_none("lamp", changed(LAMP_ACCOUNT, (1, 1, 1, 2), {"turns": thing}))

    def test_rows_exchanged_more_and_fewer(self):
        for name, (_, run, (states, rows)) in WRITTEN.items():
            self.assert_none(name, (states, rows[:-1]))
            self.assert_none(name, (states, rows[1:]))
            self.assert_none(name, (states, rows + rows[-1:]))
            self.assert_none(name, (states, rows[1:2] + rows[:1] + rows[2:]))
            self.assert_none(name, (states[:-1], rows))
            self.assert_none(name, (states[::-1], rows))
            self.assert_none(name, (states + states[-1:], rows))
            self.assert_none(name, (states, tuple(row[::-1] for row in rows)))
            self.assert_none(name, (states, tuple(row[1:] for row in rows)))
            self.assert_none(name, (rows, states))
            self.assert_none(name, (states, rows, ()))
            self.assert_none(name, run)

    def test_others_than_those_led_by_helps(self):
        other = changed(TANK_ACCOUNT, (1, 0, 0, 1), (1, True))
        self.assertIs(check_account(TANK, TANK_RUN, other), True)
        self.assertIs(check_account(TANK, TANK_RUN, changed(other, (1, 5, 0, 1), (1, True))), True)
        # Nor is it said that PARAMS of one NAME have one VALUE.
        self.assertIs(check_account(TANK, TANK_RUN, changed(other, (1, 8, 0, 1), (1, False))), True)
        self.assert_none("tank", changed(other, (1, 8, 0, 1), (2, True)))
        free = fault((IN_LOW + (2,), ()))
        run = run_by(free[0], free[1][1], [0] * 6)
        account = account_of(free, run)
        # Without INVARIANTS of both MODELS "s" may be any one that its own MODEL lets it be.
        other = changed_states(account, "s", {"a": "b", "b": "a"})
        self.assertNotEqual(other, account)
        self.assertIs(check_account(free, run, other), True)
        self.assertIs(check_account(GOOD, run, account), True)
        self.assertIs(check_account(GOOD, run, other), False)

    def test_an_account_where_none_is_led_by_helps(self):
        # The HELP isn't one that the MODEL ABOVE lets be; another one would do.
        development = FAULTS["helps, at the second"][0]
        run = run_by(development[0], development[1][1], [0] * 6)
        with self.assertRaises(Broken):
            account_of(development, run)
        self.assertIs(check_account(development, run, account_of(GOOD, run)), True)

    def test_invariants_kept_variables_and_variants(self):
        run = run_by(GOOD[0], GOOD[1][1], [0] * 8)
        account = account_of(GOOD, run)
        self.assertIs(check_account(GOOD, run, account), True)
        for path, new in [
            ((1, 0, 2, 0, 1), ("most", var("k"), num(3))), ((1, 0, 2, 0, 1), ("less", num(0), var("k"))),
            ((1, 0, 2, 1, 1), NO), ((1, 1, 2, 0, 1), var("f")), ((1, 1, 2, 1, 1), ("same", var("x"), num(2))),
            ((1, 1, 5), var("c")), ((1, 1, 5), num(5)), ((1, 1, 5), ("sub", num(2), var("c"))),
            ((1, 1, 4, 0, 1), "idle"), ((1, 1, 4, 0, 1), None), ((1, 1, 4, 1, 1), "idle"),
        ]:
            development = changed(GOOD, path, new)
            if path[-2:] == (0, 1) and path[2] == 4:
                development = changed(development, (1, 1, 4, 0, 5), ())
            with self.subTest(path=path, new=new):
                self.assertIs(check_account(development, run, account), False)
        for path, new in [((1, 0, 2, 0, 1), YES), ((1, 1, 5), None), ((1, 1, 5), ("sub", num(3), var("c"))),
                          ((1, 1, 5), ("sub", num(8), ("mul", num(2), var("c"))))]:
            self.assertIs(check_account(changed(GOOD, path, new), run, account), True)

    def test_an_account_of_another_run(self):
        both = ((), (("one", (("n", ("num", 3)),), (), ((("be", "n", num(0)),), ()), (
            ("up", None, (), (), (("be", "n", ("add", var("n"), num(1))),), ()),
            ("down", None, (), (), (("be", "n", ("sub", var("n"), num(1))),), ()),
            ("rise", None, (), (), (("be", "n", ("add", var("n"), num(1))),), ())), None),))
        runs = [({"n": 0}, ((name, (), {"n": 1}), (other, (), {"n": 2}))) for name in ("up", "rise")
                for other in ("up", "rise")]
        runs.append(({"n": 0}, (("up", (), {"n": 1}), ("down", (), {"n": 0}))))
        for run in runs:
            for other in runs:
                self.assertIs(check_account(both, run, account_of(both, other)), run == other)

    def test_a_kept_variable_that_is_not_the_same(self):
        # Above it's poured twice as fast: that is a RUN there, too.
        run = (drip(0), TANK_RUN[1][:4])
        account = account_of(TANK, run)
        faster = tuple((("pour", (2, False), fill(2 * number)), row[1]) for number, row in enumerate(account[1], 1))
        self.assertIs(check_account(TANK, run, account), True)
        self.assertIs(check_account(TANK, run, (account[0], faster)), False)
        self.assertIs(check_account(TANK, run, (account[0], account[1][:-1] + faster[-1:])), False)
        ahead = ({"last": "a", "done": ()}, *JOBS_ACCOUNT[0][1:])
        self.assertIs(check_account(JOBS, (JOBS_RUN[0], ()), (JOBS_ACCOUNT[0], ())), True)
        self.assertIs(check_account(JOBS, (JOBS_RUN[0], ()), (ahead, ())), False)

    def test_a_new_deed_below_a_model_with_a_variant(self):
        low = ("low", (("turns", ("num", 3)), ("wait", ("num", 2))), (), (
            (("be", "turns", num(0)), ("be", "wait", num(2))), ()), (
            ("tick", None, (), (("less", num(0), var("wait")),), (("be", "wait", ("sub", var("wait"), num(1))),), ()),
            ("go", "up", (), (("same", var("wait"), num(0)), ("same", var("turns"), num(0))),
             (("be", "turns", num(1)), ("be", "wait", num(2))), ())), var("wait"))
        development = ((), (*LAMP[1], low))
        run = run_by((), low, [0] * 6)
        account = account_of(development, run)
        self.assertEqual([row[2][0] for row in account[1]], ["tick", "tick", "go", "tick", "tick"])
        self.assertEqual([row[1][0] for row in account[1]], [None, None, "up", None, None])
        self.assertEqual(account[1][3], ((None, (), lamp(False)), (None, (), turns(1)), run[1][3]))
        self.assertEqual((account, None, None), plain_account(development, run))
        self.assertIs(check_account(development, run, account), True)

    def test_by_none_what_nothing_else_tells(self):
        free = fault((IN_LOW + (2,), ()))
        run = run_by(free[0], free[1][1], [0] * 8)
        account = account_of(free, run)
        ahead = account[1][4][0][2]
        self.assertEqual(account[1][4][0][0], None)
        other = {"a": "b", "b": "a"}[ahead["s"]]
        for number in (4, 5, 6):
            self.assertIs(check_account(free, run, changed(account, (1, number, 0, 2), {**ahead, "s": other})), False)

    def test_by_none_the_state_is_as_it_was(self):
        account = account_of(GOOD, run_by(GOOD[0], GOOD[1][1], [0] * 8))
        run = (account[0][1], tuple(row[1] for row in account[1]))
        self.assertEqual(account[1][4][0][0], None)
        for name, value in [("k", 3), ("x", 5), ("r", "b"), ("s", "b"), ("z", 1)]:
            ahead = account[1][4][0][2]
            value = value if ahead[name] != value else {"b": "a"}.get(value, 0)
            self.assertIs(check_account(GOOD, run, changed(account, (1, 4, 0, 2), {**ahead, name: value})), False)
        self.assertIs(check_account(GOOD, run, changed(account, (1, 4, 0, 1), (0,))), False)
        self.assertIs(check_account(GOOD, run, changed(account, (1, 4, 0, 1), [])), False)
        self.assertIs(check_account(GOOD, run, changed(account, (1, 4, 0, 0), "idle")), False)


class RefusedTest(unittest.TestCase):
    def assert_refused(self, error, *handed):
        for call in (account_of, lambda *given: check_account(*given, LAMP_ACCOUNT), lambda *given: check_account(
                *given, None)):
            with self.assertRaises(ValueError) as caught:
                call(*handed)
            self.assertIs(type(caught.exception), error)

    def test_no_development(self):
        for thing in odd_things() + [(), ((), ()), ((), (LAMP[1][1],)), ((), LAMP[1][::-1])]:
            self.assert_refused(BadModel, thing, LAMP_RUN)
            self.assert_refused(BadModel, thing, None)

    def test_no_run(self):
        for thing in odd_things():
            self.assert_refused(BadRun, LAMP, thing)
            self.assert_refused(BadRun, LAMP, (thing, ()))
            if not isinstance(thing, tuple) or len(thing) > 0:
                self.assert_refused(BadRun, LAMP, (turns(0), thing))
        for run in [({"on": False}, ()), (turns(1), ()), (turns(False), ()), (turns(0), [("up", (), turns(1))]),
                    (turns(0), (("up", (), turns(2)),)), (turns(0), (("up", (), turns(True)),)),
                    (turns(0), (("snap", (), turns(2)),)), (turns(0), (("flip", (), lamp(True)),)),
                    (turns(0), (("up", [], turns(1)),)), LAMP_RUN[:1], LAMP_ACCOUNT, SPOTS_RUN]:
            self.assert_refused(BadRun, LAMP, run)
        long = run_by((), LAMP[1][1], [0] * 201)
        self.assert_refused(BadRun, LAMP, (long[0], long[1] + (("up", (), turns(1)),)))

    def test_a_run_of_another_level(self):
        for level in range(3):
            run = (JOBS_ACCOUNT[0][level], tuple(row[level] for row in JOBS_ACCOUNT[1] if row[level][0] is not None))
            self.assert_refused(BadRun, JOBS, run)

    def test_broken_behind_what_is_no_run(self):
        development, _, _ = FAULTS["stays of the start"]
        self.assert_refused(BadRun, development, LAMP_RUN)


def changed_states(account, name, others):
    """The same with other VALUES of a VARIABLE of LEVEL 0."""
    def other(state):
        return {**state, name: others[state[name]]}
    states, rows = account
    return ((other(states[0]), *states[1:]),
            tuple(((row[0][0], row[0][1], other(row[0][2])), *row[1:]) for row in rows))


def paths_of(thing, path=()):
    """The paths to all in tuples and dicts."""
    found = [path]
    if isinstance(thing, tuple):
        for place, part in enumerate(thing):
            found += paths_of(part, path + (place,))
    if isinstance(thing, dict):
        for key, part in thing.items():
            found += paths_of(part, path + (key,))
    return found


def part_at(thing, path):
    for place in path:
        thing = thing[place]
    return thing


def with_part(thing, path, new):
    if len(path) == 0:
        return new
    inner = with_part(thing[path[0]], path[1:], new)
    if isinstance(thing, dict):
        return {**thing, path[0]: inner}
    return (*thing[:path[0]], inner, *thing[path[0] + 1:])


def others_of(part):
    """Things that aren't that one, nor stand for the same in an ACCOUNT."""
    found = [[], [part], (part,), b"x"]
    if isinstance(part, bool):
        return found + [not part, int(part), None]
    if isinstance(part, int):
        return found + [part + 1, part - 1, str(part), bool(part)]
    if isinstance(part, str):
        return found + [part + "x", "", None, 0, "start"]
    if part is None:
        return found + ["flip", "start", "", 0, False]
    if isinstance(part, tuple):
        return found + [list(part), part + (0,), None]
    return found + [{**part, "more": 0}, list(part.items()), {}, {key: part[key] for key in list(part)[1:]},
                    tuple(part)]


if __name__ == "__main__":
    unittest.main()
