"""[14]: CODES made from MODELS."""

import copy
import random
import unittest

from odd_things import odd_things
from plain_codes import parts_of, parts_of_model, plain_marks
from plain_parts import Maker
from stairs import DEVELOPMENTS, JOBS, LAMP, SPOTS, TANK, changed
from stairwright.codes import is_code, made_code
from stairwright.errors import BadExpression, BadModel, NotMade, TooGreat
from stairwright.expressions import sort_of, sort_of_type
from stairwright.machine import Machine
from stairwright.models import need_development
from words import NO, YES, elem, joined, nested, num, var

FOUR_SETS = (("four", ("a", "b", "c", "d")), ("two", ("p", "q")), ("one1", ("z",)))
FOUR, EVERY, NONE = ("one", "four"), ("every", "four"), ("none", "four")


def model_of(variables, starts, *deeds):
    start = tuple(("be", name, expression) for (name, _), expression in zip(variables, starts))
    return ("m", tuple(variables), (), (start, ()), tuple(deeds), None)


def deed(name, guards, actions):
    return (name, None, (), tuple(guards), tuple(("be", *action) for action in actions), ())


class CodeTest(unittest.TestCase):
    def assert_marks(self, carriers, model, most=6):
        """That the CODE marks just what the MODEL's own WORTHS give; how many ORDERS it has."""
        need_development((carriers, (model,)))
        code = made_code((carriers, (model,)))
        self.assertIs(is_code(code), True)
        machine = Machine(code)
        for mark, numbers in plain_marks(carriers, model, most):
            self.assertEqual(machine.to_mark(), mark)
            self.assertEqual(machine.boxes(len(numbers)), numbers)
            self.assertIs(machine.has_stopped(), mark is None)
            if max(numbers) - min(numbers) > 10 ** 30:
                # Soon they're more than a box may have.
                break
        return len(code)


class MadeCodeTest(CodeTest):
    def test_developments(self):
        for development in (LAMP, JOBS):
            carriers, models = development
            machine = Machine(made_code(development))
            for mark, numbers in plain_marks(carriers, models[-1], 40):
                self.assertEqual(machine.to_mark(), mark)
                self.assertEqual(machine.boxes(len(numbers)), numbers)

    def test_written_out(self):
        self.assertEqual(plain_marks((), LAMP[1][1], 5),
                         [(0, (0,)), (1, (1,)), (2, (2,)), (1, (3,)), (3, (0,)), (1, (1,))])
        machine = Machine(made_code(LAMP))
        self.assertEqual([(machine.to_mark(), machine.boxes(1)) for _ in range(6)],
                         [(0, (0,)), (1, (1,)), (2, (2,)), (1, (3,)), (3, (0,)), (1, (1,))])
        machine = Machine(made_code(JOBS))
        # next, held, busy, last
        self.assertEqual([(machine.to_mark(), machine.boxes(4)) for _ in range(8)], [
            (0, (0, 0, 0, 1)), (1, (1, 0, 1, 1)), (4, (1, 0, 0, 0)), (2, (2, 1, 1, 0)), (4, (2, 1, 0, 1)),
            (3, (3, 2, 1, 1)), (4, (3, 2, 0, 2)), (5, (0, 2, 0, 1))])

    def test_the_first_deed_that_can_be_done(self):
        variables = [("n", ("num", 9))]
        up = ("n", ("add", var("n"), num(1)))
        one = model_of(variables, [num(0)], deed("a", [("less", num(3), var("n")), NO], [up]),
                       deed("b", [("less", num(2), var("n")), ("less", var("n"), num(5))], [up]), deed("c", [
                           ("less", var("n"), num(5))], [up]), deed("d", [("less", var("n"), num(7))], [up]))
        self.assert_marks((), one, 20)
        marks = [mark for mark, _ in plain_marks((), one, 20)]
        self.assertEqual(marks, [0, 3, 3, 3, 2, 2, 4, 4, None])

    def test_where_it_stops(self):
        one = model_of([("t", ("truth",))], [YES], deed("a", [("not", var("t"))], []))
        machine = Machine(made_code(((), (one,))))
        self.assertEqual([machine.to_mark() for _ in range(3)], [0, None, None])
        self.assertIs(machine.has_stopped(), True)

    def test_deeds_without_guards_and_actions(self):
        one = model_of([("t", ("truth",)), ("n", ("num", 3))], [YES, num(2)], deed("a", [], []))
        self.assertEqual(plain_marks((), one, 2), [(0, (1, 2)), (1, (1, 2)), (1, (1, 2))])
        self.assert_marks((), one)

    def test_all_actions_read_what_is_ahead(self):
        kinds = [("num", 9), ("num", 9), ("num", 9)]
        variables = list(zip("xyz", kinds))
        for texts in [("y", "x", "z"), ("y", "z", "x"), ("z", "x", "y"), ("x", "x", "x"), ("z", "y", "x"),
                      ("y", "y", "z")]:
            one = model_of(variables, [num(1), num(2), num(3)], deed("a", [], zip("xyz", map(var, texts))))
            self.assert_marks((), one)
        three = model_of([(name, ("map", "four", ("num", 15))) for name in "xy"] + [("s", ("some", "four"))],
                         [("all", "four", num(1)), ("all", "four", num(2)), EVERY], deed("a", [], [
                             ("x", ("put", var("y"), elem("b"), ("at", var("x"), elem("c")))),
                             ("y", ("put", var("x"), elem("a"), ("add", num(1), ("at", var("y"), elem("a"))))),
                             ("s", ("but", var("s"), ("just", elem("c"))))]))
        self.assert_marks(FOUR_SETS, three)

    def test_values_beyond_their_types(self):
        one = model_of([("n", ("num", 3)), ("m", ("map", "two", ("num", 2)))], [num(9), ("all", "two", num(77))], deed(
            "a", [], [("n", ("mul", var("n"), ("sub", num(1), num(3)))),
                      ("m", ("put", var("m"), elem("q"), var("n")))]))
        self.assert_marks(FOUR_SETS, one, 12)

    def test_names_of_each_and_any(self):
        for word in ("each", "any"):
            for kind in (("num", 1), ("num", 15), ("truth",), FOUR, ("one", "one1")):
                same = ("same", var("x"), {"num": num(1), "truth": YES,
                                           "one": elem("a" if kind == FOUR else "z")}[kind[0]])
                for inner in (same, ("not", same), YES, NO, ("any", "x", kind, same),
                              ("each", "x", ("truth",), var("x")),
                              ("and", ("any", "x", ("num", 2), ("same", var("x"), var("n"))), same),
                              ("and", same, ("any", "y", kind, ("same", var("x"), var("y")))),
                              ("each", "y", kind, ("or", ("same", var("y"), var("x")), ("less", num(0), var("n"))))):
                    one = model_of([("t", ("truth",)), ("n", ("num", 3))], [NO, num(1)], deed(
                        "a", [], [("t", (word, "x", kind, inner)), ("n", ("sub", num(1), var("n")))]))
                    self.assert_marks(FOUR_SETS, one, 3)

    def test_expressions_of_every_word(self):
        some = [EVERY, NONE, var("s"), ("just", var("e")), ("just", elem("d"))]
        some += [(word, one, other) for word in ("both", "either", "but") for one in some[:4] for other in some[:4]]
        nums = [num(0), num(99), var("n"), ("at", var("m"), var("e")), *[("count", part) for part in some]]
        nums += [(word, one, other) for word in ("add", "sub", "mul") for one in nums[:4] for other in nums[:4]]
        maps = [("all", "four", var("n")), var("m"), ("put", var("m"), var("e"), num(7)),
                ("put", ("all", "four", num(3)), elem("d"), ("sub", num(0), var("n")))]
        truths = [YES, NO, var("t"), *[("in", member, part) for member in (var("e"), elem("c")) for part in some]]
        truths += [("within", one, other) for one in some for other in some[:5]]
        truths += [(word, one, other) for word in ("less", "most", "same") for one in nums[:6] for other in nums[:6]]
        truths += [("same", one, other) for one in maps for other in maps]
        truths += [("same", one, other) for one in some[:8] for other in some[:8]]
        truths += [(word, one, other) for word in ("and", "or", "then") for one in truths[:4] for other in truths[:4]]
        truths += [("not", part) for part in truths[:6]] + [("same", YES, var("t")), ("same", var("e"), elem("a"))]
        ones = [elem("a"), var("e"), ("if", var("t"), elem("b"), var("e")),
                ("at", ("all", "four", elem("c")), var("e"))]
        kinds = [("s", ("some", "four"), some), ("n", ("num", 15), nums), ("m", ("map", "four", ("num", 15)), maps),
                 ("t", ("truth",), truths), ("e", FOUR, ones)]
        variables = [row[:2] for row in kinds]
        starts = [("but", EVERY, ("just", elem("b"))), num(2), ("put", ("all", "four", num(4)), elem("c"), num(1)), YES,
                  elem("c")]
        for name, _, expressions in kinds:
            for at in range(0, len(expressions), 6):
                deeds = [deed(f"d{number}", [], [(name, ("if", var("t"), part, part))] if number < 2 else [(name,
                                                                                                            part)])
                         for number, part in enumerate(expressions[at:at + 6])]
                for number in range(len(deeds)):
                    # Each of them first in turn.
                    self.assert_marks(FOUR_SETS, model_of(variables, starts, *deeds[number:], *deeds[:number]), 2)

    def test_by_chance(self):
        for seed in range(150):
            with self.subTest(seed):
                self.assert_marks(*chance_model(random.Random(seed)), 12)

    def test_the_deepest(self):
        deep = nested("not", var("t"), 28)
        one = model_of([("t", ("truth",))], [NO], deed("a", [deep], []), deed("b", [("not", deep)], [("t", deep)]))
        self.assert_marks((), one)
        some = var("s")
        for number in range(28):
            some = (("both", "either", "but")[number // 3 - number // 9 * 3], EVERY, some)
        one = model_of([("s", ("some", "four"))] + [(f"m{n}", ("map", "four", ("num", 3))) for n in range(5)],
                       [("just", elem("c"))] + [("all", "four", num(0))] * 5,
                       deed("a", [("in", elem("a"), some)], [("s", some)]),
                       deed("b", [], [("s", ("but", EVERY, var("s")))]))
        self.assert_marks(FOUR_SETS, one)

    def test_only_start_guards_and_actions_matter(self):
        code = made_code(LAMP)
        self.assertEqual(made_code(changed(LAMP, (1, 1, 2), ())), code)
        self.assertEqual(made_code(changed(LAMP, (1, 1, 5), None)), code)
        self.assertEqual(made_code(((), (changed(LAMP[1][1], (2,), ())[:4] + (tuple(
            (name, None, *rest) for name, _, *rest in LAMP[1][1][4]), None),))), code)


def chance_model(chance):
    members = iter("abcdghijklmn")
    carriers = tuple((name, tuple(next(members) for _ in range(chance.randint(1, 4)))) for name in ("s1", "s2", "s3"))
    maker = Maker(chance, carriers, {})
    variables = [(f"v{number}", maker.a_type()) for number in range(chance.randint(1, 6))]
    inner = Maker(chance, carriers, dict(variables))

    def made(by, kind, deep):
        while True:
            try:
                expression = by.made(sort_of_type(kind), deep, {})
                sort_of(carriers, by.context, expression)
                return expression
            except BadExpression:
                pass
    starts = [made(maker, kind, 3) for _, kind in variables]
    deeds = []
    for number in range(chance.randint(1, 6)):
        actions = [(name, made(inner, kind, chance.randint(1, 5))) for name, kind in variables if chance.random() < 0.6]
        guards = [made(inner, ("truth",), chance.randint(1, 4)) for _ in range(chance.randint(0, 2))]
        deeds.append(deed(f"d{number}", guards, actions))
    return carriers, model_of(variables, starts, *deeds)


class HowGreatTest(CodeTest):
    def test_never_of_250_expressions(self):
        some, table, truth = ("some", "four"), ("map", "four", ("num", 15)), ("truth",)
        cases = []
        for word in ("both", "either", "but"):
            cases.append((long_one(lambda inner, word=word: (word, EVERY, inner), var("v"), 29), "v", some, NONE))
        cases.append((long_one(lambda inner: ("put", inner, elem("d"), num(1)), var("v"), 20), "v", table, (
            "all", "four", num(0))))
        for kind in (("num", 15), FOUR):
            cases.append((long_one(lambda inner, kind=kind: ("any", "x", kind,
                                                             ("and", ("same", var("x"), var("x")), inner)),
                                   var("v"), 12), "v", truth, YES))
        cases.append((long_one(lambda inner: ("or", ("within", EVERY, EVERY), inner), var("v"), 25), "v", truth, NO))
        cases.append((long_one(lambda inner: ("then", ("in", elem("d"), EVERY), inner), var("v"), 25), "v", truth, NO))
        cases.append((long_one(lambda inner: ("if", ("same", EVERY, EVERY), inner, EVERY), var("v"), 25), "v", some,
                      NONE))
        for expression, name, kind, begin in cases:
            parts = parts_of(expression)
            guards = [YES] * 4
            deeds = []
            left = 249 - parts_of(begin)
            while left >= parts + 4 and len(deeds) < 6:
                deeds.append(deed(f"d{len(deeds)}", guards, [(name, expression)]))
                left -= parts + 4
            one = model_of([(name, kind)], [begin], *deeds)
            self.assertGreater(parts_of_model(one), 100)
            self.assertLessEqual(parts_of_model(one), 250)
            self.assertLessEqual(self.assert_marks(FOUR_SETS, one, 1), 5000)

    def test_as_many_boxes_as_there_are(self):
        # All GUARDS and ACTIONS together would need more, one at a time needs but a few.
        deep = var("s")
        for _ in range(12):
            deep = ("either", ("both", EVERY, deep), ("but", NONE, ("just", var("e"))))
        self.assertGreater(parts_of(deep), 80)
        deeds = [deed(f"d{number}", [("in", var("e"), deep)] * 2, [("s", deep)]) for number in range(3)]
        one = model_of([("s", ("some", "four")), ("e", FOUR)], [EVERY, elem("b")], *deeds)
        self.assert_marks(FOUR_SETS, one, 3)
        truth = var("t")
        for _ in range(24):
            truth = ("and", ("within", EVERY, EVERY), truth)
        deeds = [deed(f"d{number}", [truth] * 3, [("t", truth)]) for number in range(2)]
        one = model_of([("t", ("truth",))], [YES], *deeds)
        self.assert_marks(FOUR_SETS, one, 3)

    def test_names_that_nothing_asks_for(self):
        # All VALUES are alike: to go through them would be more than the machine does.
        for word in ("each", "any"):
            truth = ("not", var("t"))
            for number in range(20):
                truth = (word, f"x{number}", ("num", 15), truth)
            self.assert_marks((), model_of([("t", ("truth",))], [NO], deed("a", [], [("t", truth)])), 4)

    def test_too_great(self):
        long = long_one(lambda inner: ("put", inner, elem("d"), num(1)), var("v"), 27)
        great = ("both", *[nested_pairs(("either", EVERY, NONE), 6)] * 2)
        deeds = [deed(f"d{number}", [("same", long, long), ("in", elem("a"), great)] * 2, [("v", long), ("w", great)])
                 for number in range(6)]
        one = model_of([("v", ("map", "four", ("num", 15))), ("w", ("some", "four"))], [("all", "four", num(0)), EVERY],
                       *deeds)
        need_development((FOUR_SETS, (one,)))
        self.assertGreater(parts_of_model(one), 2000)
        with self.assertRaises(OverflowError) as caught:
            made_code((FOUR_SETS, (one,)))
        self.assertIs(type(caught.exception), TooGreat)
        self.assert_marks(FOUR_SETS, changed(one, (4,), (deed("few", [], [("v", long), ("w", great)]),)), 2)

    def test_many_additions(self):
        long = joined("add", *[var("n") for _ in range(30)])
        one = model_of([("n", ("num", 15))], [num(1)], deed("a", [], [("n", long)]))
        self.assert_marks((), one, 9)


def long_one(step, inner, many):
    """As often within another one as an EXPRESSION may be deep, at most so often."""
    for _ in range(many):
        longer = step(inner)
        if parts_of(longer) > 230:
            break
        inner = longer
    return inner


def nested_pairs(inner, many):
    for _ in range(many):
        inner = ("either", inner, inner)
    return inner


class RefusedTest(unittest.TestCase):
    def test_not_made(self):
        for development in [TANK, (JOBS[0], JOBS[1][:1]), (JOBS[0], JOBS[1][:2]), (JOBS[0], JOBS[1][:3]),
                            (SPOTS[0], SPOTS[1][:1]), ((), TANK[1][:1])]:
            with self.assertRaises(ValueError) as caught:
                made_code(development)
            self.assertIs(type(caught.exception), NotMade)

    def test_one_thing_by_which_it_is_not_made(self):
        one = model_of([("e", FOUR)], [elem("a")], deed("a", [], [("e", elem("b"))]))
        made_code((FOUR_SETS, (one,)))
        for path, new in [((3, 0, 0), ("from", "e", EVERY)), ((4, 0, 4, 0), ("from", "e", EVERY)),
                          ((4, 0, 2), (("x", ("truth",)),)), ((3, 0, 0), ("from", "e", ("just", elem("a"))))]:
            with self.assertRaises(NotMade):
                made_code((FOUR_SETS, (changed(one, path, new),)))

    def test_no_development(self):
        for thing in odd_things() + [((), ()), ((), LAMP[1][1:]), ((), TANK[1][1:])]:
            with self.assertRaises(ValueError) as caught:
                made_code(thing)
            self.assertIs(type(caught.exception), BadModel)

    def test_what_is_told(self):
        for development in DEVELOPMENTS.values():
            ahead = copy.deepcopy(development)
            try:
                code = made_code(development)
                self.assertEqual(made_code(development=development), code)
            except NotMade:
                pass
            self.assertEqual(development, ahead)


if __name__ == "__main__":
    unittest.main()
