"""The interface, stairwright/models.py: what is told of good DEVELOPMENTS."""

import unittest

from odd_things import odd_things
from stairs import DEVELOPMENTS, JOBS, LAMP, SPOTS, TANK, changed
from stairwright.errors import NoDeed
from stairwright.models import deed_of, is_made, kept_in, variables_to
from words import YES

JOB = ("one", "jobs")


class KeptTest(unittest.TestCase):
    def test_kept_variables(self):
        self.assertEqual([kept_in(JOBS, level) for level in range(4)],
                         [(), ("last",), ("last",), ("held", "busy", "last")])
        self.assertEqual([kept_in(LAMP, level) for level in range(2)], [(), ()])
        self.assertEqual([kept_in(TANK, level) for level in range(2)], [(), ("fill",)])

    def test_in_the_order_of_the_lower_model(self):
        top, low = ((("p", ("truth",)), ("q", ("truth",))), (("q", ("truth",)), ("r", ("truth",)), ("p", ("truth",))))
        development = ((), (("top", top, (), (), (), None), ("low", low, (), (), (), None)))
        self.assertEqual(kept_in(development, 1), ("q", "p"))
        self.assertEqual(variables_to(development, 1), (("p", ("truth",)), ("q", ("truth",)), ("r", ("truth",))))

    def test_variables_of_all_levels(self):
        one, work = (("done", ("some", "jobs")), ("last", JOB)), (("work", ("map", "jobs", ("num", 2))),)
        bench = (("todo", ("some", "jobs")), ("held", JOB), ("busy", ("truth",)))
        told = [one, one + work, one + work + bench, one + work + bench + (("next", ("num", 3)),)]
        for level in range(4):
            self.assertEqual(variables_to(JOBS, level), told[level])

    def test_by_the_names_of_their_arguments(self):
        self.assertEqual(kept_in(level=1, development=TANK), ("fill",))
        self.assertEqual(variables_to(level=0, development=TANK), (("fill", ("num", 9)),))
        self.assertEqual(deed_of(name="flip", model=LAMP[1][0])[0], "flip")
        self.assertIs(is_made(model=LAMP[1][0]), True)


class DeedTest(unittest.TestCase):
    def test_each_deed(self):
        for _, models in DEVELOPMENTS.values():
            for model in models:
                for deed in model[4]:
                    self.assertEqual(deed_of(model, deed[0]), deed)

    def test_what_is_no_deeds_name(self):
        model = JOBS[1][1]
        for thing in odd_things() + ["start", "Do", "do ", "finish", "desk", None, 0, True, ("do",), ["do"], b"do",
                                     {"do": 1}]:
            with self.assertRaises(LookupError) as caught:
                deed_of(model, thing)
            self.assertIs(type(caught.exception), NoDeed)

    def test_the_error_keeps_what_was_asked(self):
        asked = ["do"]
        with self.assertRaises(NoDeed) as caught:
            deed_of(JOBS[1][1], asked)
        asked.append("more")
        self.assertEqual(caught.exception.deed, ["do"])


class MadeTest(unittest.TestCase):
    def test_of_each(self):
        made = {"lamp": [True, True], "jobs": [False, False, False, True], "spots": [False, True],
                "tank": [False, False]}
        for name, (_, models) in DEVELOPMENTS.items():
            self.assertEqual([is_made(model) for model in models], made[name])

    def test_from_or_params_anywhere(self):
        model = JOBS[1][3]
        self.assertIs(is_made(changed(model, (3, 0, 3), ("from", "last", ("every", "jobs")))), False)
        for number in range(5):
            self.assertIs(is_made(changed(model, (4, number, 2), (("i", JOB),))), False)
            self.assertIs(is_made(changed(model, (4, number, 4), (("from", "held", ("every", "jobs")),))), False)
            self.assertIs(is_made(changed(model, (4, number, 3), (YES,))), True)
        self.assertIs(is_made(SPOTS[1][0]), False)


if __name__ == "__main__":
    unittest.main()
