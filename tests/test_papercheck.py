"""[9]: what a PAPER is, and a BREAK."""

import copy
import random
import unittest

from odd_things import deep_dict, deep_list, deep_tuple, odd_things
from plain_parts import all_states
from stairs import DEVELOPMENTS, changed
from stairwright.errors import BadPaper
from stairwright.goals import goals_of
from stairwright.papercheck import check_break, check_paper
from stairwright.papers import paper_of
from stairwright.types import cells_of, values_of
from stairwright.worths import worth
from words import NO, YES, elem, is_at, num, var

CARRIERS = (("jobs", ("a", "b")), ("spots", ("left",)))
JOB, TRUTH = ("one", "jobs"), ("truth",)
SO = ("so",)

# p and q and n.
NAMES = (("p", TRUTH), ("q", TRUTH), ("n", ("num", 2)))
GOAL = ((0, "deed", "stays", "label"), NAMES, (("then", var("p"), var("q")), ("not", var("q")),
                                               ("less", var("n"), num(2))),
        ("and", ("not", var("p")), ("less", var("n"), num(2))))
BY_Q = ("split", ("q", None), (
    ("split", ("p", None), (("split", ("n", None), (SO, SO, ("not", 2))), ("not", 0))),
    ("not", 1),
))
BY_N = ("split", ("n", None), (
    ("split", ("p", None), (SO, ("split", ("q", None), (("not", 0), ("not", 1))))),
    ("split", ("p", None), (SO, ("split", ("q", None), (("not", 0), ("not", 1))))),
    ("not", 2),
))


class CheckPaperTest(unittest.TestCase):
    def assert_bad(self, goal, paper, carriers=CARRIERS):
        with self.assertRaises(ValueError) as caught:
            check_paper(carriers, goal, paper)
        self.assertIs(type(caught.exception), BadPaper)

    def test_papers_by_cells_in_another_order(self):
        self.assertEqual(check_paper(CARRIERS, GOAL, BY_Q), 3)
        self.assertEqual(check_paper(CARRIERS, GOAL, BY_N), 5)

    def test_splits_that_were_not_needed(self):
        more = ("split", ("q", None), (BY_Q[2][0], ("split", ("n", None), (("not", 1),) * 3)))
        self.assertEqual(check_paper(CARRIERS, GOAL, more), 4)
        goal = (GOAL[0], NAMES, (), YES)
        self.assertEqual(check_paper(CARRIERS, goal, SO), 0)
        self.assertEqual(check_paper(CARRIERS, goal, ("split", ("n", None), (SO, SO, SO))), 1)

    def test_so_where_the_wish_is_not_told(self):
        self.assert_bad(GOAL, SO)
        for path in [(2, 0), (2, 0, 2, 0), (2, 0, 2, 0, 2, 2), (2, 0, 2, 1), (2, 1)]:
            self.assert_bad(GOAL, changed(BY_Q, path, SO))

    def test_not_of_a_hyp_that_is_not_false(self):
        for number in range(3):
            self.assert_bad(GOAL, ("not", number))
        self.assert_bad(GOAL, changed(BY_Q, (2, 1), ("not", 0)))
        self.assert_bad(GOAL, changed(BY_Q, (2, 1), ("not", 2)))
        self.assert_bad(GOAL, changed(BY_Q, (2, 0, 2, 1), ("not", 1)))
        self.assert_bad(GOAL, changed(BY_Q, (2, 0, 2, 0, 2, 2), ("not", 0)))
        self.assert_bad(GOAL, changed(BY_Q, (2, 0, 2, 0, 2, 0), ("not", 2)))

    def test_numbers_that_are_none(self):
        for number in [-1, -2, 3, 10 ** 3999, True, False, None, "1", (1,), [1], {}]:
            self.assert_bad(GOAL, changed(BY_Q, (2, 1), ("not", number)))
        self.assert_bad(GOAL, changed(BY_Q, (2, 0, 2, 1), ("not", False)))
        for paper in [("not",), ("not", 1, 1), ("not", 1, ()), ["not", 1]]:
            self.assert_bad(GOAL, changed(BY_Q, (2, 1), paper))

    def test_cells_that_are_none(self):
        for cell in [("m", None), ("q", "a"), ("q",), ("q", None, None), "q", ["q", None], ("q", 0), ("q", False),
                     (b"q", None), (["q"], None),
                     ("q", ["a"]), (None, None), ("q'", None), ({}, None), None, (), ("q", ())]:
            self.assert_bad(GOAL, changed(BY_Q, (1,), cell))

    def test_a_cell_that_is_known_already(self):
        again = ("split", ("q", None), (SO, SO))
        self.assert_bad(GOAL, changed(BY_Q, (2, 0, 2, 0, 2, 0), again))
        self.assert_bad((GOAL[0], NAMES, (), YES), ("split", ("q", None), (SO, again)))
        self.assert_bad((GOAL[0], NAMES, (), YES), ("split", ("q", None), (SO, ("split", ("p", None), (again, SO)))))
        # Known on one way, it isn't on another one.
        both = ("split", ("p", None), (again, again))
        self.assertEqual(check_paper(CARRIERS, (GOAL[0], NAMES, (), YES), both), 3)

    def test_papers_more_or_fewer(self):
        for path in [(), (2, 0), (2, 0, 2, 0)]:
            parts = BY_Q
            for place in path:
                parts = parts[place]
            for wrong in (parts[2][:-1], parts[2][1:], parts[2] + (SO,), parts[2] + parts[2][:1], (), list(parts[2]),
                          None, parts[2][0], parts[2][::-1]):
                self.assert_bad(GOAL, changed(BY_Q, (*path, 2), wrong))
            self.assert_bad(GOAL, changed(BY_Q, path, parts[:2]))
            self.assert_bad(GOAL, changed(BY_Q, path, parts + (SO,)))
            self.assert_bad(GOAL, changed(BY_Q, path, list(parts)))

    def test_words_that_are_none(self):
        for word in ["", "So", "splits", "yes", None, 0, True, b"so", ("so",), ["so"], {}]:
            self.assert_bad(GOAL, changed(BY_Q, (2, 0, 2, 0, 2, 0, 0), word))
            self.assert_bad(GOAL, changed(BY_Q, (0,), word))
        for paper in [("so", 1), ("so", None), ("so", ()), ["so"], "so", ("so", "so"), (SO,)]:
            self.assert_bad(GOAL, changed(BY_Q, (2, 0, 2, 0, 2, 0), paper))
            self.assert_bad((GOAL[0], NAMES, (), YES), paper)

    def test_things_of_any_kind_at_any_place(self):
        paths = [(), (0,), (1,), (1, 0), (2,), (2, 0), (2, 1), (2, 1, 0), (2, 1, 1), (2, 0, 2, 0, 2, 1),
                 (2, 0, 2, 0, 2, 1, 0)]
        for thing in odd_things() + [0, True, "other", ("p", None), ("split", ("p", None), deep_tuple(140)),
                                     deep_dict(140), deep_list(140)]:
            for path in paths:
                self.assert_bad(GOAL, changed(BY_Q, path, thing))
        for thing in odd_things():
            if thing is not None:
                self.assert_bad(GOAL, changed(BY_Q, (1, 1), thing))

    def test_deep_ones(self):
        paper = SO
        for _ in range(70):
            paper = ("split", ("p", None), (paper, SO))
        self.assert_bad(GOAL, paper)
        self.assert_bad((GOAL[0], NAMES, (), YES), paper)

    def test_cells_of_somes_and_maps(self):
        names = (("s", ("some", "jobs")), ("m", ("map", "jobs", ("num", 1))), ("k", ("one", "spots")),
                 ("w'", ("map", "spots", JOB)))
        goal = (GOAL[0], names, (("in", elem("a"), var("s")), is_at(var("w'"), var("k"), elem("b"))),
                ("and", ("not", ("within", var("s"), ("just", elem("b")))), is_at(var("w'"), elem("left"), elem("b"))))
        paper = ("split", ("s", "a"), (("not", 0), ("split", ("w'", "left"),
                                                    (("split", ("k", None), (("not", 1),)), SO))))
        self.assertEqual(check_paper(CARRIERS, goal, paper), 3)
        for cell in [("s", None), ("s", "b"), ("s", "left"), ("s", "jobs"), ("m", "a")]:
            self.assert_bad(goal, changed(paper, (1,), cell))
        for cell in [("w'", None), ("w", "left"), ("w'", "a"), ("k", "left")]:
            self.assert_bad(goal, changed(paper, (2, 1, 1), cell))
        self.assert_bad(goal, changed(paper, (2, 1, 2), paper[2][1][2][::-1]))
        # Of not told ones, too, where all ELEMENTS are alike.
        self.assertEqual(check_paper(CARRIERS, goal, changed(paper, (2, 1, 2, 0), ("not", 1))), 2)

    def test_a_goal_without_names(self):
        self.assertEqual(check_paper((), (GOAL[0], (), (), YES), SO), 0)
        self.assertEqual(check_paper((), (GOAL[0], (), (YES, NO), NO), ("not", 1)), 0)
        for paper in [SO, ("not", 0), ("not", 1), ("split", ("p", None), (SO, SO)), ("split", None, ())]:
            self.assert_bad((GOAL[0], (), (YES,), NO), paper)

    def test_papers_of_goals_that_are_not_true_are_none(self):
        goal = (GOAL[0], NAMES, (), ("or", var("p"), var("q")))
        split = ("split", ("p", None), (("split", ("q", None), (SO, SO)), SO))
        self.assert_bad(goal, split)
        self.assertEqual(check_paper(CARRIERS, changed(goal, (3, 2), ("not", var("p"))),
                                     ("split", ("p", None), (SO, SO))), 1)

    def test_each_paper_with_one_thing_otherwise(self):
        chance = random.Random(3)
        for carriers, models in DEVELOPMENTS.values():
            for goal in goals_of((carriers, models)):
                paper = paper_of(carriers, goal)
                for path in ends_of(paper):
                    end = paper
                    for place in path:
                        end = end[place]
                    for other in [SO, *[("not", number) for number in range(len(goal[2]))]]:
                        if other != end and chance.random() < 0.2:
                            self.assert_by_its_worth(carriers, goal, paper, path, other)

    def assert_by_its_worth(self, carriers, goal, paper, path, other):
        """It's let by only where all STATES that come there are so."""
        try:
            check_paper(carriers, goal, changed(paper, path, other))
        except BadPaper:
            return
        state = some_state(carriers, goal[1], paper, path)
        wanted = goal[3] if other == SO else goal[2][other[1]]
        self.assertIs(worth(carriers, wanted, state), other == SO)

    def test_by_the_names_of_its_arguments(self):
        self.assertEqual(check_paper(paper=BY_Q, goal=GOAL, carriers=CARRIERS), 3)

    def test_what_was_handed_in_is_as_it_was(self):
        for paper in [BY_Q, [BY_Q], ("split", ["q", None], [SO, {"a": [1]}])]:
            ahead = copy.deepcopy((GOAL, paper))
            try:
                check_paper(CARRIERS, GOAL, paper)
            except BadPaper:
                pass
            self.assertEqual((GOAL, paper), ahead)


def ends_of(paper, path=()):
    if paper[0] != "split":
        return [path]
    return [end for place, part in enumerate(paper[2]) for end in ends_of(part, (*path, 2, place))]


def some_state(carriers, names, paper, path):
    """A STATE by which one comes to that place of a PAPER."""
    told = {}
    for place in path[1::2]:
        name, kind = [(row, kind) for row, kind in names if row == paper[1][0]][0]
        small = dict(cells_of(carriers, name, kind))[paper[1]]
        told[paper[1]] = values_of(carriers, small)[place]
        paper = paper[2][place]
    state = {}
    for name, kind in names:
        cells = [(cell, told.get(cell, values_of(carriers, small)[0])) for cell,
                 small in cells_of(carriers, name, kind)]
        if kind[0] == "some":
            state[name] = tuple([cell[1] for cell, there in cells if there])
        else:
            state[name] = tuple([value for _, value in cells]) if kind[0] == "map" else cells[0][1]
    return state


class CheckBreakTest(unittest.TestCase):
    NAMES = (("n", ("num", 3)), ("p", TRUTH), ("j", JOB), ("s", ("some", "jobs")), ("m", ("map", "jobs", ("num", 1))))
    GOAL = ((0, "deed", "stays", "label"), NAMES, (("or", var("p"), ("less", num(1), var("n"))),
                                                   ("in", var("j"), var("s"))),
            ("less", ("add", var("n"), ("at", var("m"), var("j"))), ("add", num(1), ("count", var("s")))))
    BREAK = {"n": 2, "p": False, "j": "b", "s": ("b",), "m": (0, 1)}

    def assert_told(self, told, state):
        self.assertIs(check_break(CARRIERS, self.GOAL, state), told)

    def test_just_those_states(self):
        breaks = 0
        for state in all_states(CARRIERS, self.NAMES):
            hyps = (state["p"] or state["n"] > 1) and state["j"] in state["s"]
            wish = state["n"] + state["m"]["ab".index(state["j"])] < 1 + len(state["s"])
            self.assert_told(hyps and not wish, state)
            breaks += hyps and not wish
        self.assertGreater(breaks, 20)

    def test_a_name_more_or_fewer(self):
        self.assert_told(True, self.BREAK)
        self.assert_told(True, dict(reversed(self.BREAK.items())))
        for name in self.BREAK:
            self.assert_told(False, {key: value for key, value in self.BREAK.items() if key != name})
            self.assert_told(False, {key + "'" if key == name else key: value for key, value in self.BREAK.items()})
        self.assert_told(False, {**self.BREAK, "q": True})
        self.assert_told(False, {**self.BREAK, "n'": 1})
        self.assert_told(False, {**self.BREAK, None: 1})
        self.assert_told(False, {})
        goal = (self.GOAL[0], (), (), NO)
        self.assertIs(check_break((), goal, {}), True)
        self.assertIs(check_break((), goal, {"n": 1}), False)
        self.assertIs(check_break((), (self.GOAL[0], (), (NO,), NO), {}), False)
        self.assertIs(check_break((), (self.GOAL[0], (), (), YES), {}), False)

    def test_values_that_are_none(self):
        wrong = {"n": [4, -1, True, False, "2", None, (2,), 10 ** 3999], "p": [0, 1, None, "no"],
                 "j": ["c", "left", "jobs", None, ("b",), 1],
                 "s": [["b"], "b", ("b", "a"), ("b", "b"), ("c",), ("left",), None, (None,), (["b"],), {"b": 1},
                       (True, False)],
                 "m": [[0, 1], (0,), (0, 1, 1), (0, 2), (0, -1), (False, True), (0, True), None, {"a": 0, "b": 1},
                       ((0,), 1), "01"]}
        for name, things in wrong.items():
            for thing in things + odd_things():
                self.assert_told(False, {**self.BREAK, name: thing})

    def test_things_of_any_kind(self):
        for thing in odd_things() + [0, True, "n", list(self.BREAK.items()), tuple(self.BREAK.items()), [self.BREAK],
                                     (self.BREAK,)]:
            self.assert_told(False, thing)

    def test_names_with_a_sign_behind(self):
        goal = (self.GOAL[0], (("n", TRUTH), ("n'", TRUTH)), (var("n"),), var("n'"))
        self.assertIs(check_break((), goal, {"n": True, "n'": False}), True)
        self.assertIs(check_break((), goal, {"n": False, "n'": False}), False)
        self.assertIs(check_break((), goal, {"n": True, "n'": True}), False)

    def test_by_the_names_of_its_arguments(self):
        self.assertIs(check_break(state=self.BREAK, goal=self.GOAL, carriers=CARRIERS), True)

    def test_what_was_handed_in_is_as_it_was(self):
        for state in [self.BREAK, {**self.BREAK, "s": ["b"]}, [{}]]:
            ahead = copy.deepcopy(state)
            check_break(CARRIERS, self.GOAL, state)
            self.assertEqual(state, ahead)


if __name__ == "__main__":
    unittest.main()
