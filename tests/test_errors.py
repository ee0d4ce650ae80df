"""The interface, stairwright/errors.py."""

import inspect
import unittest

from odd_things import deep_dict, deep_list, deep_tuple
from stairwright import errors

OF_A_TEXT = ("BadCarriers", "BadType", "BadExpression", "BadState", "BadGoal", "BadPaper", "BadRun", "BadCode",
             "NotMade", "BadChange")

STANDS_UNDER = {
    "StairError": ValueError,
    "GreatError": OverflowError,
    "MissError": LookupError,
    **{name: errors.StairError for name in OF_A_TEXT},
    "BadModel": errors.StairError,
    "BadText": errors.StairError,
    "Broken": errors.StairError,
    "TooGreat": errors.GreatError,
    "NoGoal": errors.MissError,
    "NoDeed": errors.MissError,
}

FIELDS = {
    "BadModel": {"place": (2, "deed", 0)},
    "BadText": {"line": 7},
    "Broken": {"step": 3, "goal": (1, "push", "stays", "safe")},
    "NoGoal": {"goal": (1, "push", "live", None)},
    "NoDeed": {"deed": "push"},
}


class TreeTest(unittest.TestCase):
    def test_each_class_stands_straight_under_its_own_one(self):
        for name, base in STANDS_UNDER.items():
            with self.subTest(name):
                self.assertEqual(getattr(errors, name).__bases__, (base,))

    def test_there_is_no_class_besides(self):
        found = {name for name, thing in vars(errors).items() if inspect.isclass(thing)}
        self.assertEqual(found, set(STANDS_UNDER))

    def test_each_class_is_defined_there(self):
        for name in STANDS_UNDER:
            with self.subTest(name):
                self.assertEqual(getattr(errors, name).__module__, "stairwright.errors")

    def test_none_stands_under_another_one_else(self):
        tops = (errors.StairError, errors.GreatError, errors.MissError)
        for name in STANDS_UNDER:
            for other in STANDS_UNDER:
                one, above = getattr(errors, name), getattr(errors, other)
                if one is not above and above not in tops:
                    with self.subTest(f"{name} under {other}"):
                        self.assertFalse(issubclass(one, above))


class MadeOfTest(unittest.TestCase):
    def test_of_a_text(self):
        for name in OF_A_TEXT + ("StairError", "GreatError", "TooGreat", "MissError"):
            with self.subTest(name):
                self.assertEqual(str(getattr(errors, name)("what is wrong")), "what is wrong")

    def test_fields_by_place(self):
        for name, fields in FIELDS.items():
            with self.subTest(name):
                error = getattr(errors, name)(*fields.values())
                self.assertEqual(vars(error), fields)

    def test_fields_by_their_names(self):
        for name, fields in FIELDS.items():
            with self.subTest(name):
                error = getattr(errors, name)(**dict(reversed(fields.items())))
                self.assertEqual(vars(error), fields)

    def test_fields_of_none(self):
        self.assertIsNone(errors.BadText(None).line)
        self.assertIsNone(errors.Broken(None, (0, "start", "has", "spot")).step)
        self.assertEqual(errors.BadModel((1, "start", None)).place, (1, "start", None))

    def test_too_few_or_too_many_fields(self):
        for name, fields in FIELDS.items():
            for many in (len(fields) - 1, len(fields) + 1):
                with self.subTest(name, many=many), self.assertRaises(TypeError):
                    getattr(errors, name)(*([0] * many))

    def test_they_are_raised_with_their_fields(self):
        for name, fields in FIELDS.items():
            error_class = getattr(errors, name)
            with self.subTest(name), self.assertRaises(STANDS_UNDER[name]) as caught:
                raise error_class(**fields)
            self.assertEqual(vars(caught.exception), fields)


class OfAnythingTest(unittest.TestCase):
    """NoGoal and NoDeed are told of what was handed in, whatever it is."""

    def made_of(self, thing):
        return [errors.NoGoal(thing).goal, errors.NoDeed(thing).deed]

    def test_any_thing_is_a_field(self):
        things = [None, True, 0, -5, 10 ** 3999, "", "x", b"x", (), [], {}, (1, [2, {"a": [3]}]), {(1, "b"): (2,)}]
        for thing in things:
            for field in self.made_of(thing):
                self.assertIs(type(field), type(thing))
                self.assertEqual(field, thing)

    def test_deep_and_wide_things_are_fields(self):
        wide_dict = {number: () for number in range(10000)}
        for thing in (deep_tuple(150), deep_list(150), deep_dict(150), [0] * 20000, wide_dict):
            for field in self.made_of(thing):
                self.assertEqual(field, thing)

    def test_what_is_no_list_stays_the_thing_itself(self):
        thing = object()
        for field in self.made_of(thing):
            self.assertIs(field, thing)

    def test_one_thing_at_many_places(self):
        for thing in ([1], (1,)):
            for _ in range(100):
                thing = [thing, thing] if isinstance(thing, list) else (thing, thing)
            for field in self.made_of(thing):
                self.assertIs(type(field), type(thing))
                self.assertEqual(len(field), 2)

    def test_a_later_change_does_not_show(self):
        thing = [1, ([2],), {"a": [3]}]
        made = [errors.NoGoal(thing), errors.NoDeed(thing)]
        thing[1][0].append(9)
        thing[2]["a"].append(9)
        thing.append(9)
        for error, name in zip(made, ("goal", "deed")):
            self.assertEqual(vars(error), {name: [1, ([2],), {"a": [3]}]})
            self.assertNotIn(thing, error.args)


if __name__ == "__main__":
    unittest.main()
