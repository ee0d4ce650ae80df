"""[13], [14]: CODES, the machine that does their ORDERS, and the RUN that one tells."""

import copy
import unittest

from odd_things import odd_things
from stairs import DEVELOPMENTS, JOBS, LAMP, SPOTS, TANK, changed
from stairwright.codes import is_code, made_code
from stairwright.errors import BadCode, BadModel, BadRun, NotMade, TooGreat
from stairwright.machine import Machine, run_of
from words import NO, YES, num, var

STOP = ("stop",)
TWO = (("set", 1, 7), ("set", 2, -3))


class IsCodeTest(unittest.TestCase):
    def test_each_order(self):
        for order in [("set", 0, 0), ("set", 999, -(10 ** 3999)), ("set", 5, 10 ** 3999), ("copy", 0, 999),
                      ("copy", 999, 0), ("jump", 0), ("none", 999, 0), ("none", 0, 0), ("mark", 0),
                      ("mark", 10 ** 3999), STOP]:
            self.assertIs(is_code((order,)), True, order)
        for word in ("add", "sub", "mul", "less", "same"):
            for boxes in [(0, 0, 0), (999, 999, 999), (1, 2, 3)]:
                self.assertIs(is_code(((word, *boxes),)), True)

    def test_one_beyond(self):
        for order in [("set", -1, 0), ("set", 1000, 0), ("copy", 1000, 0), ("copy", 0, 1000), ("copy", -1, 0),
                      ("copy", 0, -1), ("jump", 1), ("jump", -1), ("none", 0, 1), ("none", 0, -1), ("none", 1000, 0),
                      ("none", -1, 0), ("mark", -1)]:
            self.assertIs(is_code((order,)), False, order)
        for word in ("add", "sub", "mul", "less", "same"):
            for place in (1, 2, 3):
                for box in (-1, 1000):
                    self.assertIs(is_code((changed((word, 1, 2, 3), (place,), box),)), False)

    def test_places(self):
        orders = (STOP,) * 8
        for many in (1, 2, 9):
            code = orders[:many - 1]
            self.assertIs(is_code((*code, ("jump", many - 1))), True)
            self.assertIs(is_code((*code, ("jump", many))), False)
            self.assertIs(is_code((*code, ("none", 0, many - 1))), True)
            self.assertIs(is_code((*code, ("none", 0, many))), False)
            self.assertIs(is_code((("jump", many), *code)), False)

    def test_parts_of_any_kind(self):
        good = [("set", 1, 2), ("copy", 1, 2), ("add", 1, 2, 3), ("sub", 1, 2, 3), ("mul", 1, 2, 3), ("less", 1, 2, 3),
                ("same", 1, 2, 3), ("jump", 0), ("none", 1, 0), ("mark", 1), STOP]
        for order in good:
            self.assertIs(is_code((order,)), True)
            for wrong in [order[:-1], order + (0,), list(order), order[0], (order,), (list(order[:1]), *order[1:])]:
                self.assertIs(is_code((wrong,)), False)
            for place in range(len(order)):
                others = [thing for thing in odd_things() if not isinstance(thing, int)] + [True, False, "0", [0], (0,)]
                for thing in others:
                    self.assertIs(is_code((changed(order, (place,), thing),)), False)

    def test_words(self):
        for word in ["Set", "div", "", "stops", "yes", "halt", "not", "most", b"stop", None, 0, True]:
            for rest in [(), (0,), (0, 0), (0, 0, 0)]:
                self.assertIs(is_code(((word, *rest),)), False)

    def test_how_many_orders(self):
        for many, told in [(0, False), (1, True), (2, True), (5000, True), (5001, False), (20000, False)]:
            self.assertIs(is_code((STOP,) * many), told)

    def test_things_of_any_kind(self):
        for thing in odd_things():
            self.assertIs(is_code(thing), False)
            self.assertIs(is_code((STOP, thing)), False)
        for thing in [[STOP], STOP, {0: STOP}, ([STOP],), ((STOP,),)]:
            self.assertIs(is_code(thing), False)

    def test_by_the_name_of_its_argument(self):
        self.assertIs(is_code(thing=(STOP,)), True)


def behind(*orders, many=4):
    """What is in the first boxes once these ORDERS are done."""
    machine = Machine(orders)
    while machine.to_mark() is not None:
        pass
    return machine.boxes(many)


class MachineTest(unittest.TestCase):
    def test_each_order(self):
        for order, told in [
            (("set", 0, 10 ** 1000), 10 ** 1000), (("set", 0, -5), -5), (("copy", 0, 1), 7), (("copy", 0, 3), 0),
            (("add", 0, 1, 2), 4), (("add", 0, 2, 2), -6), (("sub", 0, 1, 2), 10), (("sub", 0, 2, 1), -10),
            (("mul", 0, 1, 2), -21), (("mul", 0, 1, 3), 0), (("less", 0, 1, 2), 0), (("less", 0, 2, 1), 1),
            (("less", 0, 1, 1), 0), (("same", 0, 1, 2), 0), (("same", 0, 1, 1), 1), (("same", 0, 3, 0), 1),
        ]:
            self.assertEqual(behind(*TWO, order), (told, 7, -3, 0), order)
            self.assertEqual(behind(*TWO, order, STOP), (told, 7, -3, 0), order)

    def test_truths_are_numbers(self):
        for order in [("less", 0, 2, 1), ("same", 0, 1, 1), ("less", 0, 1, 2), ("same", 0, 1, 2)]:
            self.assertIs(type(behind(*TWO, order, many=1)[0]), int)

    def test_into_a_box_that_is_read(self):
        for order, told in [(("add", 1, 1, 2), 4), (("sub", 1, 1, 1), 0), (("mul", 1, 1, 1), 49), (("copy", 1, 1), 7),
                            (("less", 1, 2, 1), 1), (("same", 1, 1, 1), 1)]:
            self.assertEqual(behind(*TWO, order), (0, told, -3, 0))

    def test_jumps(self):
        self.assertEqual(behind(("jump", 2), ("set", 0, 1), ("set", 1, 1)), (0, 1, 0, 0))
        self.assertEqual(behind(("none", 5, 2), ("set", 0, 1), ("set", 1, 1)), (0, 1, 0, 0))
        for number in (1, -1, 10 ** 50):
            self.assertEqual(behind(("set", 5, number), ("none", 5, 3), ("set", 0, 1), ("set", 1, 1)), (1, 1, 0, 0))
        # Five times round.
        loop = (("set", 0, 5), ("set", 1, 1), ("none", 0, 6), ("sub", 0, 0, 1), ("add", 2, 2, 1), ("jump", 2), STOP)
        self.assertEqual(behind(*loop), (0, 1, 5, 0))

    def test_all_boxes_are_0_at_first(self):
        machine = Machine((STOP,))
        self.assertEqual(machine.boxes(1000), (0,) * 1000)
        self.assertEqual(machine.boxes(0), ())
        self.assertEqual((machine.done(), machine.has_stopped()), (0, False))

    def test_boxes(self):
        machine = Machine((("set", 999, 4), ("set", 0, 3)))
        machine.to_mark()
        self.assertEqual(machine.boxes(1000), (3, *[0] * 998, 4))
        self.assertEqual(machine.boxes(999), (3, *[0] * 998))
        self.assertEqual(machine.boxes(many=1), (3,))
        self.assertEqual(machine.boxes(0), ())

    def test_marks_and_stops(self):
        machine = Machine((("mark", 5), ("set", 0, 1), ("mark", 0), ("mark", 10 ** 3999), STOP, ("mark", 7)))
        told = []
        for _ in range(6):
            told.append((machine.to_mark(), machine.done(), machine.has_stopped(), machine.boxes(1)))
        self.assertEqual(told, [(5, 1, False, (0,)), (0, 3, False, (1,)), (10 ** 3999, 4, False, (1,)),
                                (None, 5, True, (1,)), (None, 5, True, (1,)), (None, 5, True, (1,))])

    def test_behind_the_last_order(self):
        machine = Machine((("mark", 1),))
        self.assertEqual((machine.to_mark(), machine.has_stopped(), machine.done()), (1, False, 1))
        for _ in range(3):
            self.assertEqual((machine.to_mark(), machine.has_stopped(), machine.done()), (None, True, 1))

    def assert_too_great(self, machine):
        """Each time, and nothing is done."""
        done, boxes = machine.done(), machine.boxes(1000)
        for _ in range(3):
            with self.assertRaises(OverflowError) as caught:
                machine.to_mark()
            self.assertIs(type(caught.exception), TooGreat)
            self.assertEqual((machine.done(), machine.boxes(1000), machine.has_stopped()), (done, boxes, False))

    def test_orders_that_are_done(self):
        machine = Machine((("jump", 0),))
        self.assert_too_great_from(machine, 200000)
        machine = Machine((("mark", 3), ("jump", 0)))
        for _ in range(100000):
            self.assertEqual(machine.to_mark(), 3)
        self.assertEqual(machine.done(), 199999)
        self.assert_too_great_from(machine, 200000)
        machine = Machine((("jump", 1), ("mark", 3), ("mark", 4), ("jump", 1)))
        marks = [machine.to_mark() for _ in range(133332)]
        self.assertEqual((set(marks), machine.done()), ({3, 4}, 1 + 133332 + 66665))
        machine.to_mark()
        self.assertEqual(machine.done(), 200000)
        self.assert_too_great(machine)

    def assert_too_great_from(self, machine, done):
        with self.assertRaises(TooGreat):
            machine.to_mark()
        self.assertEqual(machine.done(), done)
        self.assert_too_great(machine)

    def test_a_stop_as_the_last_that_may_be_done(self):
        for last, many in [(STOP, 200000), (("set", 1, 1), 200000)]:
            # 4 orders, 66,665 times round 3 ones, 1 order to leave.
            code = (("set", 0, 66665), ("set", 1, 1), ("jump", 3), ("none", 0, 6), ("sub", 0, 0, 1), ("jump", 3), last)
            machine = Machine(code)
            self.assertIsNone(machine.to_mark())
            self.assertEqual((machine.done(), machine.has_stopped()), (199999 + 1, True))
        machine = Machine((("mark", 9), *code[:2], ("jump", 4), ("none", 0, 7), ("sub", 0, 0, 1), ("jump", 4), STOP))
        self.assertEqual(machine.to_mark(), 9)
        self.assert_too_great_from(machine, 200000)

    def test_it_may_stop_behind_the_last_order_when_no_more_may_be_done(self):
        code = (("set", 0, 66665), ("set", 1, 1), ("set", 2, 1), ("jump", 4), ("none", 0, 7), ("sub", 0, 0, 1),
                ("jump", 4), ("set", 3, 1))
        machine = Machine(code)
        with self.assertRaises(TooGreat):
            machine.to_mark()
        machine = Machine(code[:2] + (("jump", 3), ("none", 0, 6), ("sub", 0, 0, 1), ("jump", 3), ("mark", 1)))
        self.assertEqual((machine.to_mark(), machine.done(), machine.to_mark()), (1, 200000, None))

    def test_figures(self):
        most = 2 ** 4000 - 1
        for number in (most, -most):
            self.assertEqual(behind(("set", 0, number), ("copy", 1, 0), ("add", 2, 0, 3)), (number, number, number, 0))
            machine = Machine((("set", 0, number), ("set", 1, 1), ("mark", 0), ("add", 2, 0, 1), ("mark", 1)))
            self.assertEqual(machine.to_mark(), 0)
            if number > 0:
                self.assert_too_great(machine)
            else:
                self.assertEqual(machine.to_mark(), 1)
        for order in [("set", 0, most + 1), ("set", 0, -most - 1), ("add", 3, 1, 2), ("sub", 3, 4, 2), ("mul", 3, 2, 1),
                      ("mul", 3, 2, 4), ("mul", 3, 1, 1), ("mul", 1, 1, 1)]:
            machine = Machine((("set", 1, most), ("set", 2, 2), ("set", 4, -most), ("mark", 8), order))
            self.assertEqual(machine.to_mark(), 8)
            self.assert_too_great(machine)
        machine = Machine((("set", 0, 2), ("mul", 0, 0, 0), ("jump", 1)))
        self.assert_too_great_from(machine, 1 + 11 * 2)
        self.assertEqual(machine.boxes(1), (2 ** 2048,))

    def test_no_code(self):
        for thing in odd_things() + [(), [STOP], (("jump", 1),)]:
            with self.assertRaises(ValueError) as caught:
                Machine(thing)
            self.assertIs(type(caught.exception), BadCode)

    def test_two_machines(self):
        code = (("set", 0, 1), ("mark", 0), ("set", 0, 2), ("mark", 1))
        one, other = Machine(code), Machine(code=code)
        one.to_mark()
        one.to_mark()
        self.assertEqual((one.boxes(1), other.boxes(1), other.to_mark(), other.boxes(1)), ((2,), (0,), 0, (1,)))

    def test_the_methods_are_its_own(self):
        for name in ("to_mark", "boxes", "done", "has_stopped"):
            self.assertIn(name, vars(Machine))


UP = ((), (("up", (("n", ("num", 3)),), (), ((("be", "n", num(0)),), ()),
            (("more", None, (), (("less", var("n"), num(3)),), (("be", "n", ("add", var("n"), num(1))),), ()),
             ("less", None, (), (("less", num(0), var("n")),), (("be", "n", ("sub", var("n"), num(1))),), ())), None),))


def up_code(*orders):
    return (("mark", 0), *orders)


def n(number):
    return {"n": number}


class RunOfTest(unittest.TestCase):
    def test_the_run_that_marks_tell(self):
        code = up_code(("set", 0, 1), ("mark", 1), ("set", 0, 0), ("mark", 2), ("set", 0, 1), ("mark", 1))
        steps = (("more", (), n(1)), ("less", (), n(0)), ("more", (), n(1)))
        for marks in range(6):
            self.assertEqual(run_of(UP, code, marks=marks), ((n(0), steps[:marks]), marks > 3))
        self.assertEqual(run_of(UP, code), ((n(0), steps), True))
        self.assertEqual(run_of(UP, (*code, STOP), marks=3), ((n(0), steps), False))
        self.assertEqual(run_of(UP, (*code, STOP, ("mark", 9)), marks=200), ((n(0), steps), True))

    def test_values_of_each_type(self):
        model = ("one", (("s", ("some", "jobs")), ("j", ("one", "jobs")), ("m", ("map", "jobs", ("one", "spots"))),
                         ("t", ("truth",)), ("k", ("map", "spots", ("num", 3)))), (),
                 ((("be", "s", ("every", "jobs")), ("be", "j", ("elem", "c")),
                   ("be", "m", ("all", "jobs", ("elem", "left"))),
                   ("be", "t", YES), ("be", "k", ("all", "spots", num(2)))), ()),
                 (("go", None, (), (), (("be", "s", ("but", var("s"), ("just", var("j")))),
                                        ("be", "m", ("put", var("m"), ("elem", "b"), ("elem", "right")))), ()),), None)
        development = (JOBS[0], (model,))
        numbers = [1, 1, 1, 2, 0, 0, 0, 1, 2, 2]
        code = tuple(("set", box, number) for box, number in enumerate(numbers)) + (
            ("mark", 0), ("set", 2, 0), ("set", 5, 1), ("mark", 1))
        first = {"s": ("a", "b", "c"), "j": "c", "m": ("left",) * 3, "t": True, "k": (2, 2)}
        second = {**first, "s": ("a", "b"), "m": ("left", "right", "left")}
        self.assertEqual(run_of(development, code), ((first, (("go", (), second),)), True))
        self.assertIs(type(run_of(development, code)[0][0]["t"]), bool)
        for box, number in [(0, 2), (0, -1), (3, 3), (4, 2), (7, 2), (8, 4), (9, -1), (7, 10 ** 300)]:
            with self.assertRaises(BadRun):
                run_of(development, (*code[:10], ("set", box, number), *code[10:]))

    def test_codes_made_from_models(self):
        for development in (LAMP, JOBS, UP):
            code = made_code(development)
            for marks in (0, 1, 20, 200):
                run, stopped = run_of(development, code, marks=marks)
                self.assertEqual((len(run[1]), stopped), (marks, False))
            self.assertEqual(run_of(development, code), run_of(development, code, marks=20))

    def assert_refused(self, error, development, code, **marks):
        with self.assertRaises((ValueError, OverflowError)) as caught:
            run_of(development, code, **marks)
        self.assertIs(type(caught.exception), error)

    def test_no_run(self):
        for code in [
            (STOP,), (("set", 0, 1),), (("mark", 1),), (("mark", 1), ("mark", 0)), (("set", 0, 4), ("mark", 0)),
            (("set", 0, -1), ("mark", 0)), (("set", 0, 1), ("mark", 0)),
            up_code(("mark", 0)), up_code(("mark", 3)), up_code(("mark", 1)), up_code(("mark", 2)),
            up_code(("set", 0, 2), ("mark", 1)), up_code(("set", 0, 1), ("mark", 2)),
            up_code(("set", 0, 4), ("mark", 1)),
            up_code(("set", 0, 1), ("mark", 1), ("mark", 10 ** 3999)),
        ]:
            self.assert_refused(BadRun, UP, code)
            if code[0] != ("mark", 0):
                self.assert_refused(BadRun, UP, code, marks=0)
            else:
                self.assertEqual(run_of(UP, code, marks=0), ((n(0), ()), False))

    def test_a_code_of_another_model(self):
        self.assert_refused(BadRun, UP, made_code(JOBS))
        self.assert_refused(BadRun, JOBS, made_code(LAMP))
        self.assert_refused(BadRun, LAMP, made_code(UP))

    def test_which_is_met_first(self):
        great, round_and_round = ("set", 5, 2 ** 4000), ("jump", 2)
        value, deed = ("set", 0, 4), ("mark", 7)
        for order in (great, round_and_round):
            self.assert_refused(TooGreat, UP, (("jump", 1), ("jump", 2), order, ("mark", 0)))
            self.assert_refused(TooGreat, UP, (("jump", 1), ("mark", 0), order, ("mark", 1)))
            # A box of no VALUE and a mark of no DEED are met at their mark.
            self.assert_refused(BadRun, UP, (value, ("mark", 0), order))
            self.assert_refused(BadRun, UP, (("mark", 3), ("mark", 0), order))
            self.assert_refused(BadRun, UP, (("mark", 0), deed, order))
            self.assert_refused(BadRun, UP, (("mark", 0), value, ("mark", 1), order))
            self.assert_refused(TooGreat, UP, (("jump", 1), ("mark", 0), order, value, ("mark", 1)))
            # That it's no RUN isn't looked at till all marks are there.
            self.assert_refused(TooGreat, UP, (("mark", 0), ("mark", 1), order))
            self.assert_refused(BadRun, UP, (("mark", 0), ("mark", 1), order), marks=1)
        self.assert_refused(TooGreat, UP, (("set", 0, 1), ("mark", 0), great))
        self.assert_refused(BadRun, UP, (("set", 0, 1), ("mark", 0), great), marks=0)

    def test_refusals_in_their_order(self):
        broken = ((), (LAMP[1][1],))
        for code in (None, (STOP,), made_code(LAMP)):
            self.assert_refused(BadModel, broken, code)
            self.assert_refused(BadModel, None, code)
            self.assert_refused(NotMade, SPOTS_TOP, code)
            self.assert_refused(NotMade, TANK, code)
        for code in odd_things() + [(), [STOP], (("jump", 1),)]:
            self.assert_refused(BadCode, UP, code)
        for thing in odd_things():
            self.assert_refused(BadModel, thing, (STOP,))

    def test_what_is_told_is_the_askers_own(self):
        code = made_code(UP)
        run, _ = run_of(UP, code, marks=2)
        run[0]["n"] = 3
        run[1][0][2]["n"] = 3
        self.assertEqual(run[1][1], ("more", (), n(2)))
        self.assertEqual(run_of(UP, code, marks=1), ((n(0), (("more", (), n(1)),)), False))

    def test_what_was_handed_in_is_as_it_was(self):
        handed = (LAMP, made_code(LAMP))
        ahead = copy.deepcopy(handed)
        run_of(*handed)
        self.assertEqual(handed, ahead)

    def test_by_the_names_of_its_arguments(self):
        self.assertEqual(run_of(code=(("mark", 0),), development=UP, marks=1), ((n(0), ()), True))
        with self.assertRaises(TypeError):
            run_of(UP, (("mark", 0),), 1)

    def test_where_nothing_can_be_done(self):
        development = changed(UP, (1, 0, 4, 0, 3), (NO,))
        self.assertEqual(run_of(development, made_code(development)), ((n(0), ()), True))
        self.assertEqual(run_of(development, made_code(development), marks=0), ((n(0), ()), False))
        self.assertEqual(run_of(development, made_code(development), marks=1), ((n(0), ()), True))


SPOTS_TOP = (SPOTS[0], SPOTS[1][:1])


if __name__ == "__main__":
    unittest.main()
