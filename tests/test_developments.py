"""[6] and [7]: MODELS and DEVELOPMENTS, and the places by which BadModel tells what isn't so."""

import copy
import unittest

from odd_things import odd_things
from stairs import DEVELOPMENTS, JOBS, LAMP, SPOTS, TANK, changed
from stairwright.errors import BadModel
from stairwright.models import is_development, need_development
from words import NO, YES, elem, nested, num, var

JOB = ("one", "jobs")
FORM, CARRIERS = ("form",), ("carriers",)


def model(**changes):
    """A MODEL of one truth p, with changes."""
    parts = {"name": "top", "variables": (("p", ("truth",)),), "invariants": (), "start": ((("be", "p", NO),), ()),
             "deeds": (("flip", None, (), (), (), ()),), "variant": None, **changes}
    return tuple(parts[word] for word in ("name", "variables", "invariants", "start", "deeds", "variant"))


def deed(**changes):
    parts = {"name": "flip", "above": None, "params": (), "guards": (), "actions": (), "helps": (), **changes}
    return tuple(parts[word] for word in ("name", "above", "params", "guards", "actions", "helps"))


def stair(*models):
    return ((("jobs", ("a", "b")),), models)


def names(many):
    return tuple(f"v{number}" for number in range(many))


def of_variables(many):
    """A MODEL with so many VARIABLES."""
    return model(variables=tuple((name, ("truth",)) for name in names(many)),
                 start=(tuple(("be", name, NO) for name in names(many)), ()))


class PlaceTest(unittest.TestCase):
    def assert_good(self, thing):
        self.assertIsNone(need_development(thing))
        self.assertIs(is_development(thing), True)

    def assert_place(self, thing, place):
        with self.assertRaises(ValueError) as caught:
            need_development(thing)
        self.assertIs(type(caught.exception), BadModel)
        self.assertEqual(caught.exception.place, place)
        self.assertEqual([type(part) for part in caught.exception.place], [type(part) for part in place])
        self.assertIs(is_development(thing), False)

    def assert_places(self, rows):
        for thing, place in rows:
            with self.subTest(place=place, thing=repr(thing)[-300:]):
                self.assert_place(thing, place)

    def test_developments(self):
        for name, development in DEVELOPMENTS.items():
            with self.subTest(name):
                self.assert_good(development)
                for many in range(1, len(development[1])):
                    self.assert_good((development[0], development[1][:many]))


class WholeFormTest(PlaceTest):
    def test_what_is_no_such_tuple(self):
        one = model()
        for thing in [(), ((),), ((), ()), ((), (one,), ()), [(), (one,)], ((), [one]), ((), one[0]), (one,), None, "",
                      ((), None), ((), {}), ((), (one,) * 5), ([], []), ([], (one,) * 5), (None, None)]:
            with self.subTest(repr(thing)[:80]):
                self.assert_place(thing, FORM)

    def test_things_of_any_kind(self):
        for thing in odd_things() + [0, True, ("a", "b", "c")]:
            self.assert_place((thing, (model(),)), CARRIERS)
            several = isinstance(thing, tuple) and len(thing) in (1, 2, 3, 4)
            self.assert_place(((), thing), (0, "form", None) if several else FORM)
            self.assert_place(((), (thing,)), (0, "form", None))
            self.assert_place((LAMP[0], (LAMP[1][0], thing)), (1, "form", None))
            if not (isinstance(thing, tuple) and len(thing) == 2):
                self.assert_place(thing, FORM)
            self.assertIs(is_development(thing), False)

    def test_carriers(self):
        one = model()
        for carriers in [[], None, (("jobs", ()),), (("jobs", ("a", "a")),), (("jobs", ["a"]),), ("jobs", ("a",))]:
            self.assert_place((carriers, (one,)), CARRIERS)
            self.assert_place((carriers, (None,)), CARRIERS)

    def test_how_many_models(self):
        models = tuple(model(name=f"m{level}", deeds=(deed(above="flip" if level > 0 else None),))
                       for level in range(5))
        for many in range(1, 5):
            self.assert_good(((), models[:many]))
        self.assert_place(((), models), FORM)
        self.assert_place(((), ()), FORM)


class ModelFormTest(PlaceTest):
    """At LEVEL 0 and LEVEL 1: a MODEL without its form is told so whatever else is wrong."""

    def assert_form(self, *wrong):
        for thing in wrong:
            with self.subTest(repr(thing)[:200]):
                self.assert_place(stair(thing), (0, "form", None))
                self.assert_place(stair(model(), thing), (1, "form", None))

    def test_the_tuple(self):
        one = model(name="low")
        self.assert_form(one[:5], one + (None,), list(one), (), "low", None)

    def test_names(self):
        self.assert_form(*[model(name=name) for name in ("", "Low", "yes", "abcdefghi", None, 1, True, b"low",
                                                         ("low",))])
        self.assert_place(stair(model(name="same"), model(name="same")), (1, "form", None))
        models = [model(name="a1"), model(name="b1"), model(name="a1")]
        self.assert_place(stair(*models), (2, "form", None))
        self.assert_good(stair(model(name="jobs")))

    def test_variables(self):
        for many in range(1, 7):
            self.assert_good(stair(of_variables(many)))
        self.assert_form(of_variables(0), of_variables(7))
        for variables in [[("p", ("truth",))], (["p", ("truth",)],), (("p",),), (("p", ("truth",), 1),),
                          (("P", ("truth",)),),
                          (("p'", ("truth",)),), (("p", "truth"),), (("p", ("num", 0)),), (("p", ("num", True)),),
                          (("p", ("one", "b")),), (("p", ("some", "spots")),),
                          (("p", ("map", "jobs", ("some", "jobs"))),),
                          (("p", None),), (None,), ("p",), None, {"p": ("truth",)},
                          (("p", ("truth",)), ("p", ("truth",))), (("p", ("truth",)), ("p", ("num", 3)))]:
            self.assert_form(model(variables=variables))

    def test_invariants(self):
        def labelled(many):
            return tuple((f"l{number}", YES) for number in range(many))
        for many in range(9):
            self.assert_good(stair(model(invariants=labelled(many))))
        self.assert_form(model(invariants=labelled(9)))
        for invariants in [[], [("l", YES)], None, YES, (YES,), (("l",),), (("l", YES, YES),), (["l", YES],),
                           (("L", YES),),
                           (("l'", YES),), ((None, YES),), ((True, YES),), (("l", YES), ("l", NO)),
                           (("l", YES), ("l", YES))]:
            self.assert_form(model(invariants=invariants))

    def test_start(self):
        good = (("be", "p", NO),)
        for start in [(), good, (good,), (good, (), ()), [good, ()], (list(good), ()), (good, []), None, ((), ()),
                      ((("be", "p", NO),) * 2, ()), ((("be", "q", NO),), ()), ((("by", "p", NO),), ()),
                      ((("be", "p"),), ()), ((("be", "p", NO, NO),), ()), ((["be", "p", NO],), ()),
                      (("be", "p", NO), ()),
                      (((None, "p", NO),), ()), (((True, "p", NO),), ()), ((("be", None, NO),), ()),
                      ((("be", ["p"], NO),), ()),
                      (good, (("h",),)), (good, (("H", YES),)), (good, (["h", YES],)), (good, YES), (good, None),
                      (good, tuple((f"h{number}", YES) for number in range(7)))]:
            self.assert_form(model(start=start))
        two = (("p", ("truth",)), ("q", ("truth",)))
        self.assert_good(stair(model(variables=two, start=((("be", "p", NO), ("be", "q", NO)), ()))))
        self.assert_form(model(variables=two, start=((("be", "q", NO), ("be", "p", NO)), ())))
        self.assert_form(model(variables=two, start=((("be", "p", NO),), ())))

    def test_deeds(self):
        many = tuple(deed(name=f"d{number}") for number in range(7))
        for number in range(1, 7):
            self.assert_good(stair(model(deeds=many[:number])))
        self.assert_form(model(deeds=()), model(deeds=many), model(deeds=list(many[:1])), model(deeds=None),
                         model(deeds=many[0]), model(deeds=(many[0], many[0])),
                         model(deeds=(many[0], deed(name="d0", guards=(NO,)))))

    def test_parts_of_a_deed(self):
        one = deed()
        wrong = [one[:5], one + ((),), list(one), None, ()]
        wrong.extend([deed(name=name) for name in ("start", "", "Flip", "no", "flip'", None, 1, ("flip",))])
        wrong.extend([deed(above=above) for above in ("", "Flip", "yes", 0, False, ("flip",), ["flip"])])
        params = (("i", JOB), ("j", JOB), ("k", JOB))
        self.assert_good(stair(model(deeds=(deed(params=params[:2]),))))
        wrong.extend([deed(params=thing) for thing in (
            params, [("i", JOB)], None, JOB, (JOB,), (("i",),), (("i", JOB, 1),), (["i", JOB],), (("I", JOB),),
            (("i'", JOB),),
            (("i", ("some", "jobs")),), (("i", ("map", "jobs", ("truth",))),), (("i", ("one", "spots")),),
            (("i", None),),
            (("i", ("num", 16)),), (("i", JOB), ("i", JOB)), (("i", JOB), ("i", ("truth",))))])
        self.assert_good(stair(model(deeds=(deed(guards=(YES,) * 4),))))
        wrong.extend([deed(guards=thing) for thing in ((YES,) * 5, [YES], None, "yes", {})])
        wrong.extend([deed(actions=thing) for thing in (
            [], None, "be", (("be", "p"),), (("be", "p", NO, NO),), (["be", "p", NO],), (("is", "p", NO),),
            (("be", "q", NO),),
            (("be", "p'", NO),), (("be", "p", NO), ("be", "p", NO)), (("be", "p", NO), ("from", "p", NO)),
            (([], "p", NO),),
            (("be", {}, NO),), ("be", "p", NO))])
        helps = tuple((f"h{number}", YES) for number in range(7))
        wrong.extend([deed(helps=thing) for thing in (helps, [], None, YES, (YES, YES), (("h",),), (("H", YES),),
                                                      (["h", YES],))])
        for thing in wrong:
            self.assert_form(model(deeds=(thing,)), model(deeds=(deed(name="ahead"), thing)))

    def test_actions_in_the_order_of_variables(self):
        six = of_variables(6)
        actions = six[3][0]
        for some in [actions, actions[:1], actions[2:4], (actions[0], actions[5]), ()]:
            self.assert_good(stair(changed(six, (4,), (deed(actions=some),))))
        for some in [actions[::-1], (actions[1], actions[0]), (actions[0], actions[2], actions[1]),
                     actions + actions[:1]]:
            self.assert_form(changed(six, (4,), (deed(actions=some),)))

    def test_expressions_are_not_looked_at_by_the_form(self):
        self.assert_place(stair(model(invariants=(("l", ["yes"]),))), (0, "invariant", 0))
        self.assert_place(stair(model(start=((("be", "p", None),), ()))), (0, "start", None))
        self.assert_place(stair(model(deeds=(deed(guards=({},)),))), (0, "deed", 0))
        self.assert_place(stair(model(variant=["num", 1])), (0, "variant", None))


class ContextTest(PlaceTest):
    def test_variables_called_like_sets_and_elements(self):
        for name in ("jobs", "a", "b"):
            wrong = model(variables=(("q", ("truth",)), (name, ("truth",))),
                          start=((("be", "q", NO), ("be", name, NO)), ()))
            self.assert_place(stair(wrong), (0, "variable", 1))
            self.assert_place(stair(model(), changed(wrong, (0,), "low")), (1, "variable", 1))

    def test_variables_of_those_above(self):
        def of(name, kind, worth, level):
            return model(name=f"m{level}", variables=((name, kind),), start=((("be", name, worth),), ()))
        top = of("p", ("num", 3), num(0), 0)
        other = of("q", ("num", 3), num(0), 1)
        self.assert_good(stair(top, of("p", ("num", 3), num(1), 1)))
        self.assert_good(stair(top, other, of("q", ("num", 3), num(1), 2)))
        self.assert_place(stair(top, of("p", ("num", 2), num(0), 1)), (1, "variable", 0))
        self.assert_place(stair(top, of("p", ("truth",), NO, 1)), (1, "variable", 0))
        self.assert_place(stair(top, other, of("p", ("num", 3), num(0), 2)), (2, "variable", 0))
        self.assert_place(stair(top, other, of("r", ("truth",), NO, 2), of("q", ("num", 3), num(0), 3)),
                          (3, "variable", 0))
        self.assert_place(stair(top, other, of("q", ("num", 3), num(0), 2), of("p", ("num", 3), num(0), 3)),
                          (3, "variable", 0))

    def test_variables_called_like_params_and_bound_names_above(self):
        low = model(name="low", variables=(("p", ("truth",)), ("z", ("truth",))),
                    start=((("be", "p", NO), ("be", "z", NO)), ()))
        bound = ("each", "z", JOB, YES)
        for top in [model(deeds=(deed(params=(("z", JOB),)),)), model(invariants=(("l", bound),)),
                    model(deeds=(deed(guards=(bound,)),)),
                    model(start=((("be", "p", ("not", bound)),), ())),
                    model(deeds=(deed(actions=(("be", "p", bound),)),))]:
            self.assert_good(stair(top))
            self.assert_place(stair(top, low), (1, "variable", 1))
            between = model(name="between", variables=(("q", ("truth",)),), start=((("be", "q", NO),), ()))
            lowest = model(name="low", variables=(("z", ("truth",)),), start=((("be", "z", NO),), ()))
            self.assert_place(stair(top, between, lowest), (2, "variable", 0))
        variant = model(name="mid", variant=("if", bound, num(1), num(0)))
        lowest = changed(low, (0,), "lowest")
        self.assert_place(stair(model(), variant, lowest), (2, "variable", 1))
        self.assert_good(stair(model(), model(name="mid", variant=num(1)), lowest))

    def test_helps_bind_names_too(self):
        bound = ("if", ("any", "z", ("truth",), YES), elem("left"), elem("left"))
        spots = changed(SPOTS, (1, 1, 3, 1), (("spot", bound),))
        self.assert_good(spots)
        lowest = model(name="low", variables=(("flag", ("truth",)), ("z", ("truth",))),
                       start=((("be", "flag", YES), ("be", "z", YES)), ()))
        spots = (spots[0], spots[1] + (lowest,))
        self.assert_place(changed(spots, (1, 1, 3, 1, 0, 1, 1), ("any", "z", ("num", 1), YES)), (2, "variable", 1))

    def test_bound_names_where_they_stand(self):
        def bad(name):
            return ("any", name, JOB, YES)
        two = (deed(name="one"), deed(name="two", params=(("i", JOB),)))
        for name in ("p", "i", "a", "jobs", "b"):
            rows = [
                (model(invariants=(("l", YES), ("m", bad(name))), deeds=two), (0, "invariant", 1)),
                (model(start=((("be", "p", bad(name)),), ()), deeds=two), (0, "start", None)),
                (model(deeds=(deed(name="one", guards=(YES, bad(name))), two[1])), (0, "deed", 0)),
                (model(deeds=(two[0], deed(name="two", params=(("i", JOB),), actions=(("be", "p", bad(name)),)))),
                 (0, "deed", 1)),
                (model(deeds=(*two, deed(name="three", guards=(bad(name),)))), (0, "deed", 2)),
            ]
            for wrong, place in rows:
                self.assert_place(stair(wrong), place)
                self.assert_good(eval(repr(stair(wrong)).replace(repr(bad(name)), repr(bad("x")))))

    def test_bound_names_of_lower_models(self):
        top = model(name="m0", variables=(("v", ("truth",)),), start=((("be", "v", NO),), ()),
                    deeds=(deed(params=(("i", JOB),)),))
        mid = model(name="m1", deeds=(deed(params=(("h", JOB),)),))
        for name in ("v", "p", "i", "h"):
            bound = ("each", name, JOB, YES)
            low = model(name="m2")
            rows = [(changed(low, (2,), (("l", bound),)), (2, "invariant", 0)),
                    (changed(low, (3, 0, 0, 2), bound), (2, "start", None)),
                    (changed(low, (4, 0, 3), (bound,)), (2, "deed", 0)),
                    (changed(low, (4, 0, 4), (("be", "p", bound),)), (2, "deed", 0)),
                    (changed(low, (5,), ("if", bound, num(1), num(2))), (2, "variant", None))]
            for wrong, place in rows:
                self.assert_place(stair(top, mid, wrong), place)
        self.assert_good(stair(top, mid, model(name="m2", invariants=(("l", ("each", "z", JOB, YES)),))))

    def test_params(self):
        for name in ("p", "a", "jobs"):
            self.assert_place(stair(model(deeds=(deed(name="one"), deed(params=(("x", JOB), (name, JOB)))))),
                              (0, "deed", 1))
        low = model(name="low", variables=(("q", ("truth",)),), start=((("be", "q", NO),), ()))
        for name in ("p", "q"):
            self.assert_place(stair(model(), changed(low, (4,), (deed(params=((name, JOB),)),))), (1, "deed", 0))
        lowest = changed(changed(low, (0,), "lowest"), (4,), (deed(params=(("p", JOB),)),))
        self.assert_place(stair(model(), low, lowest), (2, "deed", 0))
        above = model(invariants=(("l", ("each", "z", JOB, YES)),))
        self.assert_place(stair(above, model(name="low", deeds=(deed(params=(("z", JOB),)),))), (1, "deed", 0))
        # One in the same MODEL is told where the each stands.
        both = model(invariants=(("l", ("each", "z", JOB, YES)),), deeds=(deed(params=(("z", JOB),)),))
        self.assert_place(stair(both), (0, "invariant", 0))

    def test_what_expressions_see(self):
        top = model(variables=(("p", ("truth",)), ("n", ("num", 3))),
                    start=((("be", "p", NO), ("be", "n", num(0))), ()))
        mid = model(name="mid", variables=(("p", ("truth",)), ("q", ("num", 3))),
                    start=((("be", "p", NO), ("be", "q", num(0))), ()))
        low = model(name="low", variables=(("q", ("num", 3)),), start=((("be", "q", num(0)),), ()))
        less_n, less_q = ("less", var("n"), num(1)), ("less", var("q"), num(1))
        self.assert_good(stair(top, changed(mid, (2,), (("l", ("and", var("p"), ("and", less_n, less_q))),)), low))
        self.assert_good(stair(top, mid, changed(low, (2,), (("l", ("and", var("p"), less_q)),))))
        self.assert_places([
            (stair(top, mid, changed(low, (2,), (("l", YES), ("m", less_n)))), (2, "invariant", 1)),
            (stair(changed(top, (2,), (("l", less_q),)), mid), (0, "invariant", 0)),
            (stair(changed(top, (3, 0, 1, 2), var("n"))), (0, "start", None)),
            (stair(top, changed(mid, (3, 0, 1, 2), var("n"))), (1, "start", None)),
            (stair(top, changed(mid, (4, 0, 3), (less_n,))), (1, "deed", 0)),
            (stair(top, changed(mid, (4, 0, 4), (("be", "q", var("n")),))), (1, "deed", 0)),
            (stair(top, changed(mid, (5,), var("n"))), (1, "variant", None)),
            (stair(top, changed(mid, (5,), var("p"))), (1, "variant", None)),
            (stair(top, mid, changed(low, (5,), ("add", var("q"), ("count", ("none", "spots"))))),
             (2, "variant", None)),
        ])
        self.assert_good(stair(top, changed(mid, (5,), ("add", var("q"), num(1)))))
        params = (("i", ("num", 3)),)
        self.assert_good(stair(changed(top, (4,), (deed(params=params, guards=(("less", var("i"), var("n")),),
                                                        actions=(("be", "n", var("i")),)),))))
        self.assert_place(stair(changed(top, (4,), (deed(params=params),
                                                    deed(name="two", guards=(("less", var("i"), var("n")),))))),
                          (0, "deed", 1))
        self.assert_place(stair(top, changed(changed(mid, (4,), (deed(params=params),)), (5,), var("i"))),
                          (1, "variant", None))

    def test_sorts(self):
        kinds = {"n": ("num", 3), "p": ("truth",), "j": JOB, "s": ("some", "jobs"), "m": ("map", "jobs", ("num", 1))}
        worths = {"n": num(9), "p": YES, "j": elem("a"), "s": ("none", "jobs"), "m": ("all", "jobs", num(7))}
        for name, kind in kinds.items():
            for other in kinds:
                start = model(variables=((name, kind),), start=((("be", name, worths[other]),), ()))
                given = model(variables=((name, kind),), start=((("be", name, worths[name]),), ()),
                              deeds=(deed(), deed(name="give", actions=(("be", name, worths[other]),))))
                if name == other:
                    self.assert_good(stair(start))
                    self.assert_good(stair(given))
                else:
                    self.assert_place(stair(start), (0, "start", None))
                    self.assert_place(stair(given), (0, "deed", 1))

    def test_from(self):
        sets = (("jobs", ("a", "b")), ("spots", ("c",)))
        one = model(variables=(("j", JOB),), start=((("from", "j", ("every", "jobs")),), ()),
                    deeds=(deed(), deed(name="give", actions=(("from", "j", ("none", "jobs")),))))
        self.assert_good((sets, (one,)))
        for wrong in (("every", "spots"), elem("a"), YES, num(1), ("all", "jobs", YES), ("var", "jobs"), None):
            self.assert_place((sets, (changed(one, (3, 0, 0, 2), wrong),)), (0, "start", None))
            self.assert_place((sets, (changed(one, (4, 1, 4, 0, 2), wrong),)), (0, "deed", 1))
        for kind, worth in [(("num", 3), num(1)), (("truth",), YES), (("some", "jobs"), ("none", "jobs")),
                            (("map", "jobs", JOB), ("all", "jobs", elem("a")))]:
            other = model(variables=(("j", kind),), start=((("from", "j", ("every", "jobs")),), ()))
            self.assert_place((sets, (other,)), (0, "start", None))
            other = changed(other, (3, 0, 0), ("be", "j", worth))
            self.assert_good((sets, (other,)))
            self.assert_place((sets, (changed(other, (4, 0, 4), (("from", "j", ("every", "jobs")),)),)), (0, "deed", 0))


class LevelTest(PlaceTest):
    def test_at_the_top(self):
        self.assert_places([
            (stair(model(deeds=(deed(above="flip"),))), (0, "deed", 0)),
            (stair(model(deeds=(deed(name="one"), deed(above="one")))), (0, "deed", 1)),
            (stair(model(deeds=(deed(helps=(("p", YES),)),))), (0, "deed", 0)),
            (stair(model(start=((("be", "p", NO),), (("p", YES),)))), (0, "start", None)),
            (stair(model(variant=num(1))), (0, "variant", None)),
        ])

    def test_the_deed_above(self):
        low = model(name="low")
        self.assert_good(stair(model(), changed(low, (4, 0, 1), "flip")))
        self.assert_good(stair(model(), low))
        self.assert_place(stair(model(), changed(low, (4, 0, 1), "other")), (1, "deed", 0))
        self.assert_place(stair(model(), changed(low, (4, 0, 1), "start")), (1, "deed", 0))
        # It's one of the MODEL ABOVE, not of one further up and not of its own.
        mid = model(name="mid", deeds=(deed(name="mids"),))
        self.assert_place(stair(model(), mid, changed(low, (4, 0, 1), "flip")), (2, "deed", 0))
        self.assert_good(stair(model(), mid, changed(low, (4, 0, 1), "mids")))
        self.assert_place(stair(model(), model(name="low", deeds=(deed(name="own"), deed(above="own")))),
                          (1, "deed", 1))

    def test_params_of_another_type_than_above(self):
        last = TANK[1][1][4][1]
        path = (1, 1, 4, 1)
        both = (("n", ("num", 3)), ("fast", ("truth",)))
        self.assert_good(changed(TANK, path, (*last[:2], both, *last[3:5], ())))
        self.assert_good(changed(TANK, path, (*last[:2], both[::-1], *last[3:5], ())))
        for kind in [("num", 2), ("num", 4), ("truth",)]:
            params = (("n", kind), both[1])
            self.assert_place(changed(TANK, path, (*last[:2], params, *last[3:5], ())), (1, "deed", 1))
        self.assert_place(changed(TANK, path, (*last[:2], (both[0], ("fast", ("num", 1))), (), (), ())), (1, "deed", 1))
        # A new DEED, or one that does another DEED, may have it.
        for above in (None, "empty"):
            self.assert_good(changed(TANK, (1, 1, 4, 2), deed(name="tip", above=above, params=(("n", ("truth",)),))))

    def test_helps_for_params(self):
        path = (1, 1, 4, 0, 5)
        self.assertEqual(TANK[1][1][4][0][5], (("n", num(1)), ("fast", NO)))
        rows = [(), (("n", num(1)),), (("fast", NO),), (("fast", NO), ("n", num(1))),
                (("n", num(1)), ("fast", NO), ("fill", num(1))),
                (("n", NO), ("fast", num(1))), (("n", elem("a")), ("fast", NO)), (("n", var("n")), ("fast", NO)),
                (("m", num(1)), ("fast", NO)),
                (("n", num(1)), ("fast", var("z"))), (("n", None), ("fast", NO))]
        for helps in rows:
            with self.subTest(helps):
                self.assert_place(changed(TANK, path, helps), (1, "deed", 0))
        for helps in [(("n", var("fill")), ("fast", var("told"))),
                      (("n", num(99)), ("fast", ("less", var("fill"), num(2))))]:
            self.assert_good(changed(TANK, path, helps))
        # With a PARAM of its own that's called so no other HELP is for it.
        self.assert_place(changed(TANK, (1, 1, 4, 1, 5), (("n", num(1)), ("fast", NO))), (1, "deed", 1))
        self.assert_good(changed(TANK, (1, 1, 4, 1, 5), (("n", ("if", var("fast"), num(1), num(2))),)))
        twice = changed(TANK, path, (("n", num(1)), ("n", num(1))))
        self.assertIs(is_development(twice), False)

    def test_helps_for_what_from_gives(self):
        good = (("spot", elem("left")),)
        for helps in [(), good + good, (("spot", YES),), (("flag", YES),), (("spot", var("spot")),),
                      (("spot", var("flag")),)]:
            self.assert_place(changed(SPOTS, (1, 1, 3, 1), helps), (1, "start", None))
        for helps in [(), (("flag", YES),), (("spot", YES),), (("spot", var("z")),), (("spot", elem("spots")),)]:
            self.assert_place(changed(SPOTS, (1, 1, 4, 0, 5), helps), (1, "deed", 0))
        self.assert_good(changed(SPOTS, (1, 1, 4, 0, 5), (("spot", var("spot")),)))
        # By be there is nothing to be helped with.
        self.assert_place(changed(SPOTS, (1, 0, 3, 0, 0), ("be", "spot", elem("left"))), (1, "start", None))
        self.assert_place(changed(SPOTS, (1, 0, 4, 0, 4, 0), ("be", "spot", elem("left"))), (1, "deed", 0))

    def test_helps_of_a_new_deed_and_of_kept_variables(self):
        self.assert_place(changed(SPOTS, (1, 1, 4, 0, 1), None), (1, "deed", 0))
        self.assert_good(changed(changed(SPOTS, (1, 1, 4, 0, 1), None), (1, 1, 4, 0, 5), ()))
        self.assert_place(changed(JOBS, (1, 1, 3, 1), (("last", elem("a")),)), (1, "start", None))
        self.assert_place(changed(JOBS, (1, 1, 4, 2, 5), (("last", elem("a")),)), (1, "deed", 2))

    def test_helps_for_both_in_their_order(self):
        pick = (("i", ("num", 3)), ("j", JOB))
        top = model(variables=(("g", JOB), ("h", JOB)), start=((("be", "g", elem("a")), ("be", "h", elem("a"))), ()),
                    deeds=(
            deed(params=pick, actions=(("from", "g", ("every", "jobs")), ("from", "h", ("every", "jobs")))),))
        low = model(name="low", deeds=(deed(above="flip"),))
        helps = (("i", num(1)), ("j", elem("a")), ("g", elem("b")), ("h", elem("b")))
        self.assert_good(stair(top, changed(low, (4, 0, 5), helps)))
        for other in [helps[::-1], helps[:3], helps[1:], (helps[2], helps[3], helps[0], helps[1]),
                      (helps[1], helps[0], *helps[2:]),
                      (*helps[:2], helps[3], helps[2])]:
            self.assert_place(stair(top, changed(low, (4, 0, 5), other)), (1, "deed", 0))
        own = changed(low, (4, 0, 2), pick[1:])
        self.assert_good(stair(top, changed(own, (4, 0, 5), (helps[0], ("g", var("j")), helps[3]))))
        self.assert_place(stair(top, changed(own, (4, 0, 5), helps)), (1, "deed", 0))


class FirstPlaceTest(PlaceTest):
    """Of several faults the place of the first one is told."""

    def test_in_the_order_of_what(self):
        faults = [
            (((0,), "Low"), (1, "form", None)), (((1,), (("p", ("truth",)), ("a", ("truth",)))), None),
            (((2,), (("l", num(1)),)), (1, "invariant", 0)), (((3, 0, 0, 2), num(1)), (1, "start", None)),
            (((4, 0, 3), (num(1),)), (1, "deed", 0)), (((5,), YES), (1, "variant", None)),
        ]
        faults = [fault for fault in faults if fault[1] is not None]
        for first in range(len(faults)):
            low = model(name="low")
            for (path, new), _ in faults[first:]:
                low = changed(low, path, new)
            self.assert_place(stair(model(), low), faults[first][1])
            self.assert_place(stair(model(), low, None), faults[first][1])
            self.assert_place(stair(model(variant=num(0)), low), (0, "variant", None))

    def test_a_variable_ahead_of_all_but_the_form(self):
        low = model(name="low", variables=(("p", ("num", 1)), ("a", ("truth",))),
                    start=((("be", "p", YES), ("be", "a", 1)), ()),
                    invariants=(("l", num(1)),), variant=YES)
        self.assert_place(stair(model(), low), (1, "variable", 0))
        self.assert_place(stair(model(), changed(low, (1, 0, 0), "q")), (1, "form", None))
        self.assert_place(stair(model(), changed(changed(low, (1, 0, 0), "q"), (3, 0, 0, 1), "q")), (1, "variable", 1))

    def test_the_first_number(self):
        self.assert_place(stair(model(invariants=(("l", YES), ("m", num(1)), ("n", num(1))))), (0, "invariant", 1))
        deeds = (deed(name="one"), deed(name="two", guards=(YES, num(1))), deed(name="three", above="one"))
        self.assert_place(stair(model(deeds=deeds)), (0, "deed", 1))

    def test_the_first_model(self):
        self.assert_place(((), (model(), [])), (1, "form", None))
        self.assert_place(((), ([], [])), (0, "form", None))
        self.assert_place((None, ([], [])), CARRIERS)

    def test_expressions_beyond_their_bounds(self):
        self.assert_good(stair(model(invariants=(("l", nested("not", YES, 29)),))))
        self.assert_place(stair(model(invariants=(("l", nested("not", YES, 30)),))), (0, "invariant", 0))


def paths_of(thing, most, path=()):
    """All places in tuples, not deeper than so."""
    found = [path] if len(path) > 0 else []
    if isinstance(thing, tuple) and len(path) < most:
        for place, part in enumerate(thing):
            found.extend(paths_of(part, most, (*path, place)))
    return found


def place_of(path):
    """The place that is told where a thing of another kind stands there."""
    if path[0] == 0:
        return CARRIERS
    if len(path) == 1:
        return FORM
    level, *rest = path[1:]
    what = rest[0] if len(rest) > 0 else 0
    if what == 2 and len(rest) >= 3 and rest[2] == 1:
        return (level, "invariant", rest[1])
    if what == 3 and len(rest) >= 4 and rest[3] == (2 if rest[1] == 0 else 1):
        return (level, "start", None)
    if what == 4 and len(rest) >= 4:
        last = {3: 3, 4: 4, 5: 4}.get(rest[2], 99)
        if rest[2] == 3 or len(rest) > last and rest[4] == {4: 2, 5: 1}.get(rest[2]):
            return (level, "deed", rest[1])
    return (level, "variant", None) if what == 5 else (level, "form", None)


class AnyPlaceTest(PlaceTest):
    def test_things_of_any_kind_at_any_place(self):
        for development in (SPOTS, LAMP):
            for path in [path for path in paths_of(development, 9) if len(path) > 1]:
                for thing in odd_things():
                    if (thing is None and self.may_be_none(path)) or self.may_stand(development, path, thing):
                        continue
                    with self.subTest(path=path, thing=repr(thing)[:80]):
                        self.assert_refused(changed(development, path, thing), path, thing)

    def assert_refused(self, development, path, thing):
        if isinstance(thing, tuple) and path[2:3] in ((2,), (3,), (4,)) and len(thing) < 9:
            # It may have the form of HELPS, GUARDS or INVARIANTS, though they are none.
            with self.assertRaises(BadModel) as caught:
                need_development(development)
            self.assertEqual(caught.exception.place[0], path[1])
        else:
            self.assert_place(development, place_of(path))

    def may_be_none(self, path):
        return len(path) == 3 and path[2] == 5 or len(path) == 5 and path[2] == 4 and path[4] == 1

    def may_stand(self, development, path, thing):
        """Whether a word, a number or a tuple of that kind may be there."""
        if path[0] == 0:
            return isinstance(thing, tuple) and len(thing) > 0 and all(isinstance(part, str) for part in thing)
        for place in path[:-1]:
            development = development[place]
        bare = isinstance(thing, str) and thing in ("yes", "no") and development in (("yes",), ("no",))
        return bare or isinstance(thing, int) and thing == 16 and development[0] == "num"

    def test_what_was_handed_in_is_as_it_was(self):
        for thing in [*DEVELOPMENTS.values(), [list(LAMP[0]), list(LAMP[1])], (LAMP[0], [{"a": [1]}]), {"a": []}]:
            ahead = copy.deepcopy(thing)
            is_development(thing)
            self.assertEqual(thing, ahead)

    def test_by_the_names_of_their_arguments(self):
        self.assertIsNone(need_development(thing=LAMP))
        self.assertIs(is_development(thing=LAMP), True)
        self.assertIs(is_development(thing=None), False)
        with self.assertRaises(BadModel):
            need_development(thing=None)


if __name__ == "__main__":
    unittest.main()
