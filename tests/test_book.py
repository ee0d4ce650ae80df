"""[16]: BOOKS."""

import copy
import unittest

from odd_things import NotCompared, SameAsAll, odd_things
from stairs import DEVELOPMENTS, DIAL_MODEL, JOBS, LAMP, LAMP_MODEL, SPOTS, TANK, changed
from stairwright.book import Book
from stairwright.errors import BadChange, BadModel, BadPaper, NoDeed, NoGoal
from stairwright.goals import asked_anew, goals_of
from stairwright.papercheck import check_paper
from stairwright.papers import paper_of
from words import NO, YES, num, var

ALL_LAMP = tuple(goal[0] for goal in goals_of(LAMP))
FITS_UP = (1, "up", "fits", "turns")
GLUE = ("same", var("on"), ("less", num(1), var("turns")))


def shown(development):
    book = Book(development)
    book.try_all()
    return book


class ReadingTest(unittest.TestCase):
    def test_what_it_begins_with(self):
        for development in DEVELOPMENTS.values():
            book = Book(development)
            goals = goals_of(development)
            self.assertEqual((book.development(), book.goals()), (development, goals))
            self.assertEqual(book.still_open(), tuple(goal[0] for goal in goals))
            self.assertEqual((book.log(), book.open_jobs(), len(book)), ([], 0, len(goals)))
            for goal in goals:
                self.assertIsNone(book.paper(goal[0]))

    def test_how_it_shows_itself(self):
        book = Book(LAMP)
        self.assertEqual((repr(book), str(book)), ("Book(2, 10, 10)",) * 2)
        book.show(FITS_UP, paper_of((), book.goals()[2]))
        self.assertEqual(repr(book), "Book(2, 10, 9)")
        book.try_all()
        self.assertEqual(repr(book), "Book(2, 10, 0)")
        book.job([("fewer",)])
        self.assertEqual((repr(book), len(book)), ("Book(1, 0, 0)", 0))
        self.assertEqual(repr(Book(JOBS)), "Book(4, 72, 72)")

    def test_no_development(self):
        for thing in odd_things() + [((), ()), ((), LAMP[1][1:]), [(), LAMP[1]]]:
            with self.assertRaises(ValueError) as caught:
                Book(thing)
            self.assertIs(type(caught.exception), BadModel)

    def test_the_methods_are_its_own(self):
        for name in ("job", "undo", "redo", "development", "goals", "still_open", "paper", "show", "try_all", "log",
                     "open_jobs", "copy", "__eq__", "__len__", "__repr__"):
            self.assertIn(name, vars(Book))


class ShowTest(unittest.TestCase):
    def test_papers(self):
        book = Book(LAMP)
        for number, goal in enumerate(goals_of(LAMP)):
            paper = paper_of((), goal)
            self.assertIsNone(book.show(goal[0], paper))
            self.assertEqual(book.paper(goal[0]), paper)
            self.assertEqual(book.still_open(), ALL_LAMP[number + 1:])

    def test_in_the_place_of_an_elder_one(self):
        book = Book(LAMP)
        goal = goals_of(LAMP)[1]
        self.assertEqual(paper_of((), goal), ("so",))
        book.show(goal[0], ("so",))
        goal = goals_of(LAMP)[2]
        first = paper_of((), goal)
        book.show(goal[0], first)
        # Split by what needn't be asked, too.
        other = ("split", ("on", None), (first, first))
        self.assertEqual(check_paper((), goal, other), 1 + 2 * check_paper((), goal, first))
        book.show(goal[0], other)
        self.assertEqual(book.paper(goal[0]), other)
        self.assertEqual(len(book.still_open()), len(ALL_LAMP) - 2)

    def test_papers_that_are_none(self):
        book = Book(LAMP)
        papers = {goal[0]: paper_of((), goal) for goal in goals_of(LAMP)}
        wrong = odd_things() + [("split", ("on", None), (("so",), ("so",))), ("not", 0), ("not", 2), ["so"],
                                papers[(1, "reset", "stays", "glue")], papers[(1, None, "live", None)], ("so", ()),
                                LAMP]
        for thing in wrong:
            with self.assertRaises(ValueError) as caught:
                book.show(FITS_UP, thing)
            self.assertIs(type(caught.exception), BadPaper)
        self.assertEqual(book.still_open(), ALL_LAMP)
        book.show(FITS_UP, papers[FITS_UP])
        for thing in wrong:
            with self.assertRaises(BadPaper):
                book.show(FITS_UP, thing)
        self.assertEqual(book.paper(FITS_UP), papers[FITS_UP])

    def test_no_goal(self):
        book = Book(LAMP)
        for thing in odd_things() + [(0, "flip", "stays", "glue"), (True, *FITS_UP[1:]), list(FITS_UP), FITS_UP[:3],
                                     book.goals()[2], (1, "start", "live", None)]:
            for paper in (("so",), None, [], SameAsAll()):
                with self.assertRaises(LookupError) as caught:
                    book.show(thing, paper)
                self.assertIs(type(caught.exception), NoGoal)
            with self.assertRaises(LookupError) as caught:
                book.paper(thing)
            self.assertIs(type(caught.exception), NoGoal)

    def test_a_goal_that_is_not_true(self):
        wrong = changed(LAMP, (1, 1, 4, 0, 4, 0, 2), ("add", var("turns"), num(2)))
        book = Book(wrong)
        for paper in (("so",), ("not", 0), ("split", ("turns", None), (("so",),) * 4)):
            with self.assertRaises(BadPaper):
                book.show(FITS_UP, paper)
        told = book.try_all()
        false = [goal[0] for goal in goals_of(wrong) if paper_of((), goal) is None]
        self.assertIn(FITS_UP, false)
        self.assertEqual(told, tuple(which for which in ALL_LAMP if which not in false))
        self.assertEqual(book.still_open(), tuple(false))
        self.assertIsNone(book.paper(FITS_UP))
        self.assertEqual((book.try_all(), book.still_open()), ((), tuple(false)))
        # What is true of another DEVELOPMENT is found there.
        book.job([("whole", LAMP)])
        left = book.still_open()
        self.assertIn(FITS_UP, left)
        self.assertEqual((book.try_all(), book.still_open()), (left, ()))


class TryAllTest(unittest.TestCase):
    def test_all(self):
        for development in DEVELOPMENTS.values():
            book = Book(development)
            self.assertEqual(book.try_all(), tuple(goal[0] for goal in goals_of(development)))
            self.assertEqual((book.still_open(), book.try_all()), ((), ()))
            for goal in goals_of(development):
                self.assertGreaterEqual(check_paper(development[0], goal, book.paper(goal[0])), 0)

    def test_only_those_that_were_open(self):
        book = Book(LAMP)
        goal = goals_of(LAMP)[2]
        own = ("split", ("on", None), (paper_of((), goal),) * 2)
        book.show(FITS_UP, own)
        self.assertEqual(book.try_all(), tuple(which for which in ALL_LAMP if which != FITS_UP))
        self.assertEqual(book.paper(FITS_UP), own)

    def test_goals_that_are_the_same(self):
        # Of two DEEDS with the same GUARDS and ACTIONS the GOALS are the same but for their IDS.
        twice = changed(LAMP, (1, 1, 4), (*DIAL_MODEL[4], ("wake", *DIAL_MODEL[4][0][1:])))
        book = Book(twice)
        paper = paper_of((), goals_of(LAMP)[2])
        book.show((1, "wake", "fits", "turns"), paper)
        self.assertEqual(book.paper(FITS_UP), paper)
        self.assertNotIn(FITS_UP, book.still_open())
        told = book.try_all()
        self.assertEqual([which for which in told if which[1] in ("up", "wake")], [
            (1, "up", "stays", "glue"), (1, "up", "less", None), (1, "wake", "stays", "glue"),
            (1, "wake", "less", None)])

    def test_a_goal_that_is_too_great(self):
        # A sum of as many numbers as may be, of which it isn't told in time whether it may be so great.
        names = [f"{letter}{number}" for letter in "ab" for number in range(6)]
        great = too_great_development(names)
        book = Book(great)
        told = book.try_all()
        self.assertEqual(book.still_open(), ((1, "go", "stays", "odd"),))
        self.assertEqual(len(told), len(book) - 1)
        self.assertEqual((book.try_all(), book.copy().try_all(), len(book.still_open())), ((), (), 1))
        self.assertIsNone(book.paper((1, "go", "stays", "odd")))


def too_great_development(names):
    """The one GOAL that is TRUE, but of which no short PAPER is: that twice a sum isn't an odd number."""
    half = len(names) // 2

    def added(all_names):
        found = var(all_names[0])
        for name in all_names[1:]:
            found = ("add", found, var(name))
        return found
    fifteen = ("num", 15)
    low = names[half:]
    idle = (("go", None, (), (), (), ()),)
    top = ("top", tuple((name, fifteen) for name in names[:half]), (),
           (tuple(("be", name, num(0)) for name in names[:half]), ()), idle, None)
    wish = ("not", ("same", ("mul", num(2), added(names)), num(99)))
    return ((), (top, ("low", tuple((name, fifteen) for name in low), (("odd", wish),),
                       (tuple(("be", name, num(0)) for name in low), ()),
                       (("go", "go", (), (), tuple(("be", name, ("sub", num(15), var(name))) for name in low), ()),),
                       None)))


class ChangeTest(unittest.TestCase):
    def assert_changes(self, development, change, behind):
        """That the CHANGE makes that of it, and tells what it asks anew; of all OPEN and of all shown."""
        book = Book(development)
        told = book.job([change])
        self.assertEqual(book.development(), behind)
        self.assertEqual(book.goals(), goals_of(behind))
        anew = asked_anew(development, behind)
        self.assertEqual(told, [anew])
        book = shown(development)
        self.assertEqual(book.still_open(), ())
        self.assertEqual(book.job([change]), [anew])
        self.assertEqual(book.still_open(), anew)
        return anew

    def test_whole(self):
        for behind in DEVELOPMENTS.values():
            for development in DEVELOPMENTS.values():
                self.assert_changes(development, ("whole", behind), behind)
        self.assertEqual(Book(LAMP).job([("whole", LAMP)]), [()])

    def test_model(self):
        other = changed(DIAL_MODEL, (4, 2, 4, 0, 2), num(1))
        self.assertEqual(self.assert_changes(LAMP, ("model", 1, other), ((), (LAMP_MODEL, other))),
                         ((1, "reset", "fits", "turns"), (1, "reset", "stays", "glue")))
        other = changed(LAMP_MODEL, (0,), "bulb")
        self.assertEqual(self.assert_changes(LAMP, ("model", 0, other), ((), (other, DIAL_MODEL))), ())

    def test_other_names(self):
        # One VARIABLE more, of which no HYP and no WISH says anything.
        other = changed(changed(LAMP_MODEL, (1,), (*LAMP_MODEL[1], ("dim", ("truth",)))), (3, 0), (
            *LAMP_MODEL[3][0], ("be", "dim", NO)))
        anew = self.assert_changes(LAMP, ("model", 0, other), ((), (other, DIAL_MODEL)))
        self.assertEqual(anew, tuple(which for which in ALL_LAMP if which[1] != "start"))
        # Another TYPE.
        wide = changed(DIAL_MODEL, (1, 0, 1), ("num", 4))
        self.assertIn((1, "snap", "stays", "glue"),
                      self.assert_changes(LAMP, ("model", 1, wide), ((), (LAMP_MODEL, wide))))

    def test_more_and_fewer(self):
        top = ((), (LAMP_MODEL,))
        self.assertEqual(self.assert_changes(top, ("more", DIAL_MODEL), LAMP), ALL_LAMP)
        self.assertEqual(self.assert_changes(LAMP, ("fewer",), top), ())
        for level in range(1, 4):
            ahead, behind = (JOBS[0], JOBS[1][:level]), (JOBS[0], JOBS[1][:level + 1])
            self.assert_changes(ahead, ("more", JOBS[1][level]), behind)
            self.assert_changes(behind, ("fewer",), ahead)

    def test_invariant(self):
        more = ("most", var("turns"), num(3))
        anew = self.assert_changes(LAMP, ("invariant", 1, "more", more),
                                   changed(LAMP, (1, 1, 2), (("glue", GLUE), ("more", more))))
        self.assertEqual(len(anew), 8 + 4)
        anew = self.assert_changes(LAMP, ("invariant", 1, "glue", more), changed(LAMP, (1, 1, 2), (("glue", more),)))
        self.assertEqual(len(anew), 9)
        without = changed(LAMP, (1, 1, 2), ())
        self.assert_changes(LAMP, ("invariant", 1, "glue", None), without)
        self.assert_changes(without, ("invariant", 1, "glue", GLUE), LAMP)
        three = changed(LAMP, (1, 1, 2), (("a", YES), ("glue", GLUE), ("b", more)))
        for number, label in enumerate(("a", "glue", "b")):
            rest = three[1][1][2][:number] + three[1][1][2][number + 1:]
            self.assert_changes(three, ("invariant", 1, label, None), changed(three, (1, 1, 2), rest))
            self.assert_changes(three, ("invariant", 1, label, GLUE), changed(three, (1, 1, 2, number, 1), GLUE))
        self.assert_changes(LAMP, ("invariant", 0, "fine", ("not", NO)),
                            changed(LAMP, (1, 0, 2), (("fine", ("not", NO)),)))

    def test_guards_actions_and_helps(self):
        guards = (("less", var("turns"), num(3)),)
        self.assertEqual(self.assert_changes(LAMP, ("guards", 1, "up", guards),
                                             changed(LAMP, (1, 1, 4, 0, 3), guards)), (
            FITS_UP, (1, "up", "stays", "glue"), (1, "up", "less", None), (1, None, "live", None)))
        self.assert_changes(LAMP, ("guards", 1, "up", ()), changed(LAMP, (1, 1, 4, 0, 3), ()))
        actions = (("be", "turns", num(3)),)
        self.assertEqual(self.assert_changes(LAMP, ("actions", 1, "snap", actions),
                                             changed(LAMP, (1, 1, 4, 1, 4), actions)), (
            (1, "snap", "fits", "turns"), (1, "snap", "stays", "glue")))
        self.assert_changes(LAMP, ("actions", 1, "reset", ()), changed(LAMP, (1, 1, 4, 2, 4), ()))
        helps = (("n", num(2)), ("fast", NO))
        self.assertEqual(self.assert_changes(TANK, ("helps", 1, "drop", helps), changed(TANK, (1, 1, 4, 0, 5), helps)),
                         (
            (1, "drop", "picks", "n"), (1, "drop", "guard", 0), (1, "drop", "guard", 1), (1, "drop", "does", "fill")))
        self.assert_changes(LAMP, ("helps", 1, "up", ()), LAMP)

    def test_what_was_open_is_not_told_again(self):
        book = Book(LAMP)
        more = ("most", var("turns"), num(3))
        first = book.job([("invariant", 1, "more", more)])[0]
        self.assertEqual(len(first), 12)
        # All that are the same as ahead of it were OPEN.
        self.assertEqual(book.job([("invariant", 1, "more", more)]), [()])
        again = book.job([("invariant", 1, "more", None)])[0]
        self.assertEqual(again, tuple(which for which in ALL_LAMP if which[1] != "start"))
        book.try_all()
        self.assertEqual(book.job([("invariant", 1, "more", more), ("invariant", 1, "more", None)]), [first, ()])

    def test_another_id_of_the_same_goal(self):
        # The MODEL is called otherwise, so is the DEED: what is to be shown stays.
        other = changed(changed(LAMP, (1, 1, 4, 0, 0), "wake"), (1, 1, 0), "knob")
        self.assertEqual(Book(LAMP).job([("whole", other)]), [()])
        book = shown(LAMP)
        self.assertEqual(book.job([("whole", other)]), [()])
        self.assertEqual(book.paper((1, "wake", "fits", "turns")), shown(LAMP).paper(FITS_UP))

    def test_other_carriers(self):
        other = ((("jobs", ("a",)),), LAMP[1])
        book = shown(LAMP)
        self.assertEqual(book.job([("whole", other)]), [ALL_LAMP])
        self.assertEqual(book.job([("whole", LAMP)]), [()])

    def test_papers_stay(self):
        book = shown(LAMP)
        papers = {which: book.paper(which) for which in ALL_LAMP}
        book.job([("whole", TANK)])
        self.assertEqual(len(book.still_open()), len(goals_of(TANK)))
        self.assertEqual(book.job([("whole", SPOTS), ("whole", LAMP)])[1], ())
        self.assertEqual({which: book.paper(which) for which in ALL_LAMP}, papers)
        self.assertEqual(book.try_all(), ())


MODEL = LAMP[1][1]
GOOD_CHANGES = [
    ("whole", TANK), ("model", 1, MODEL), ("more", MODEL), ("fewer",), ("invariant", 1, "glue", GLUE),
    ("invariant", 1, "glue", None), ("guards", 1, "up", ()), ("actions", 1, "up", ()), ("helps", 1, "up", ())]


class RefusedTest(unittest.TestCase):
    def assert_refused(self, error, *changes, development=LAMP):
        """That the last one is refused, also behind a good one, and that the DEVELOPMENT is as it was."""
        for ahead in ([], [("invariant", 1, "other", YES)]):
            book = shown(development)
            with self.assertRaises((ValueError, LookupError)) as caught:
                book.job(ahead + list(changes))
            self.assertIs(type(caught.exception), error, repr(changes)[:300])
            self.assertEqual((book.development(), book.goals()), (development, goals_of(development)))
            self.assertEqual(book.still_open(), ())
            words = [change[0] for change in (*ahead, *changes[:-1])]
            self.assertEqual(book.log(), [("open", 0), *[("did", word) for word in words], ("shut", 0, len(words))])
            self.assertEqual((book.open_jobs(), book.undo(), book.redo()), (0, False, False))
        return caught.exception

    def test_words_and_lengths(self):
        for change in GOOD_CHANGES:
            self.assert_refused(BadChange, change[:-1])
            self.assert_refused(BadChange, change + (None,))
            self.assert_refused(BadChange, list(change))
            self.assert_refused(BadChange, (change,))
            for word in ("Whole", "", "less", "invariants", "start", "deed", None, 0, ["fewer"], b"fewer"):
                self.assert_refused(BadChange, (word, *change[1:]))

    def test_levels(self):
        for change in GOOD_CHANGES:
            if len(change) > 2:
                for level in (-1, 2, True, False, "1", None, (1,), [1], 10 ** 3999, -(10 ** 3999)):
                    self.assert_refused(BadChange, changed(change, (1,), level))

    def test_labels_and_deeds(self):
        for label in ("", "yes", "Glue", "abcdefghi", 0, None, ("glue",), ["glue"], b"glue"):
            self.assert_refused(BadChange, ("invariant", 1, label, YES))
            self.assert_refused(BadChange, ("invariant", 1, label, None))
        self.assert_refused(BadChange, ("invariant", 1, "more", None))
        self.assert_refused(BadChange, ("invariant", 0, "glue", None))
        for word in ("guards", "actions", "helps"):
            for name in (0, None, ("up",), ["up"], b"up", True):
                self.assert_refused(BadChange, (word, 1, name, ()))
            for name in ("", "start", "flip", "Up", "never", "no", "a" * 20000):
                refused = self.assert_refused(NoDeed, (word, 1, name, ()))
                self.assertEqual(refused.deed, name)
                self.assert_refused(NoDeed, (word, 1, name, None))

    def test_fewer_of_a_single_one(self):
        self.assert_refused(BadChange, ("fewer",), ("fewer",))
        book = Book(((), (LAMP_MODEL,)))
        with self.assertRaises(BadChange):
            book.job([("fewer",)])

    def test_what_would_not_be_a_development(self):
        for change, place in [
            (("whole", None), ("form",)), (("whole", (((),), LAMP[1])), ("carriers",)),
            (("model", 0, MODEL), (0, "invariant", 0)),
            (("model", 1, LAMP_MODEL), (1, "form", None)), (("more", MODEL), (2, "form", None)),
            (("more", None), (2, "form", None)),
            (("invariant", 1, "glue", num(1)), (1, "invariant", 0)), (("invariant", 1, "more", num(1)), None),
            (("invariant", 0, "more", var("turns")), (0, "invariant", 0)),
            (("guards", 1, "snap", (num(1),)), (1, "deed", 1)),
            (("guards", 1, "snap", [YES]), (1, "form", None)),
            (("actions", 1, "reset", (("be", "turns", YES),)), (1, "deed", 2)),
            (("actions", 1, "reset", (("be", "on", YES),)), (1, "form", None)),
            (("helps", 1, "up", (("n", num(1)),)), (1, "deed", 0)), (("helps", 1, "up", None), (1, "form", None)),
            (("invariant", 0, "glue", ["yes"]), (0, "invariant", 0)),
        ]:
            refused = self.assert_refused(BadModel, change)
            if place is not None:
                self.assertEqual(refused.place, place, change)
        self.assert_refused(BadModel, *[("more", (f"m{n}", *idle_model(f"v{n}"))) for n in range(3)])

    def test_as_many_models_as_there_may_be(self):
        book = Book(LAMP)
        book.job([("more", (f"m{n}", *idle_model(f"v{n}"))) for n in range(2)])
        self.assertEqual(len(book.development()[1]), 4)

    def test_things_of_any_kind(self):
        book = shown(LAMP)
        for thing in odd_things():
            with self.assertRaises(BadChange):
                book.job([thing])
            for change in GOOD_CHANGES:
                for place in range(len(change)):
                    # None in the place of an INVARIANT takes it away.
                    if not (change[0] == "invariant" and place == 3 and thing is None):
                        with self.assertRaises((BadChange, BadModel, NoDeed)):
                            book.job([changed(change, (place,), thing), ("fewer",), ("fewer",)])
        self.assertEqual((book.development(), book.still_open(), book.open_jobs()), (LAMP, (), 0))

    def test_no_list(self):
        book = shown(LAMP)
        for thing in odd_things() + [(("fewer",),), ("fewer",), {0: ("fewer",)}]:
            if not isinstance(thing, list):
                with self.assertRaises(ValueError) as caught:
                    book.job(thing)
                self.assertIs(type(caught.exception), BadChange)
        # It's no JOB: it has no number.
        self.assertEqual((book.log(), book.open_jobs()), ([], 0))
        book.job([])
        self.assertEqual(book.log(), [("open", 0), ("shut", 0, 0)])


def idle_model(name):
    """But for its NAME."""
    return (((name, ("truth",)),), (), ((("be", name, NO),), ()), (("idle", None, (), (), (), ()),), None)


class JobTest(unittest.TestCase):
    def test_none_one_and_several(self):
        book = shown(LAMP)
        self.assertEqual(book.job([]), [])
        self.assertEqual(book.development(), LAMP)
        guards = (("less", var("turns"), num(3)),)
        told = book.job([("guards", 1, "up", guards), ("invariant", 1, "more", YES), ("fewer",)])
        self.assertEqual([len(ids) for ids in told], [4, 12, 0])
        self.assertEqual(book.development(), ((), (LAMP_MODEL,)))
        self.assertEqual(book.log(), [("open", 0), ("shut", 0, 0), ("open", 1), ("did", "guards"), ("did", "invariant"),
                                      ("did", "fewer"), ("shut", 1, 3)])

    def test_one_refused_among_them(self):
        book = shown(LAMP)
        good, bad = ("invariant", 1, "more", YES), ("invariant", 1, "less", None)
        for changes, many in [([bad], 0), ([good, bad, good], 1), ([good, good, ("fewer",), bad], 3)]:
            with self.assertRaises(BadChange):
                book.job(changes)
            self.assertEqual((book.development(), book.log()[-1][2]), (LAMP, many))
        self.assertEqual([entry for entry in book.log() if entry[0] == "open"], [("open", 0), ("open", 1), ("open", 2)])
        self.assertEqual(book.log()[-5:], [("open", 2), ("did", "invariant"), ("did", "invariant"), ("did", "fewer"),
                                           ("shut", 2, 3)])
        book.job([good])
        self.assertEqual(book.log()[-3:], [("open", 3), ("did", "invariant"), ("shut", 3, 1)])

    def test_undo_and_redo(self):
        book = shown(LAMP)
        stages = [LAMP]
        for number in range(3):
            book.job([("invariant", 1, f"more{number}", YES)])
            stages.append(book.development())
        for number in (2, 1, 0):
            self.assertIs(book.undo(), True)
            self.assertEqual((book.development(), book.log()[-1]), (stages[number], ("undo", number)))
            self.assertEqual(book.goals(), goals_of(stages[number]))
        log = book.log()
        self.assertIs(book.undo(), False)
        self.assertEqual((book.development(), book.log()), (LAMP, log))
        for number in range(3):
            self.assertIs(book.redo(), True)
            self.assertEqual((book.development(), book.log()[-1]), (stages[number + 1], ("redo", number)))
        log = book.log()
        self.assertIs(book.redo(), False)
        self.assertEqual((book.development(), book.log()), (stages[3], log))
        self.assertEqual([entry[1] for entry in log[-6:]], [2, 1, 0, 0, 1, 2])

    def test_no_redo_behind_another_job(self):
        book = shown(LAMP)
        book.job([("invariant", 1, "more", YES)])
        book.undo()
        book.job([("fewer",)])
        self.assertIs(book.redo(), False)
        self.assertIs(book.undo(), True)
        self.assertEqual((book.development(), book.log()[-1]), (LAMP, ("undo", 1)))
        self.assertIs(book.undo(), False)
        self.assertIs(book.redo(), True)
        self.assertEqual(len(book.development()[1]), 1)

    def test_a_refused_job_is_none_that_was_done(self):
        book = shown(LAMP)
        book.job([("fewer",)])
        book.undo()
        with self.assertRaises(BadChange):
            book.job([("fewer",), ("fewer",)])
        with self.assertRaises(BadChange):
            book.job(None)
        self.assertIs(book.redo(), True)
        self.assertEqual(book.log()[-1], ("redo", 0))
        with self.assertRaises(BadChange):
            book.job([("fewer",)])
        self.assertIs(book.undo(), True)
        self.assertEqual((book.log()[-1], book.development()), (("undo", 0), LAMP))
        self.assertEqual(book.job([("fewer",)]), [()])
        self.assertEqual(book.log()[-1], ("shut", 3, 1))

    def test_a_job_of_nothing_is_undone_too(self):
        book = Book(LAMP)
        book.job([("fewer",)])
        book.job([])
        self.assertIs(book.undo(), True)
        self.assertEqual((book.log()[-1], len(book.development()[1])), (("undo", 1), 1))
        self.assertIs(book.undo(), True)
        self.assertEqual(book.development(), LAMP)

    def test_papers_stay_when_it_is_undone(self):
        book = shown(LAMP)
        book.job([("invariant", 1, "more", ("most", var("turns"), num(3)))])
        found = book.try_all()
        self.assertEqual(len(found), 12)
        book.undo()
        self.assertEqual(book.still_open(), ())
        book.redo()
        self.assertEqual(book.still_open(), ())

    def test_lists_are_the_askers_own(self):
        book = Book(LAMP)
        changes = [("fewer",)]
        told = book.job(changes)
        changes.append(("fewer",))
        self.assertEqual((book.redo(), len(book.development()[1])), (False, 1))
        told.append("changed")
        log = book.log()
        log.clear()
        self.assertEqual(book.log(), [("open", 0), ("did", "fewer"), ("shut", 0, 1)])
        book.undo()
        book.redo()
        self.assertEqual(len(book.development()[1]), 1)

    def test_by_the_names_of_their_arguments(self):
        book = Book(development=LAMP)
        self.assertIsNone(book.show(paper=paper_of((), goals_of(LAMP)[2]), goal=FITS_UP))
        self.assertIsNotNone(book.paper(goal=FITS_UP))
        self.assertEqual(book.job(changes=[]), [])

    def test_what_was_handed_in_is_as_it_was(self):
        changes = [("whole", TANK), ("whole", LAMP), ("invariant", 1, "more", YES), ("fewer",)]
        ahead = copy.deepcopy(changes)
        Book(LAMP).job(changes)
        self.assertEqual(changes, ahead)


class CopyTest(unittest.TestCase):
    def test_it_goes_its_own_way(self):
        book = Book(LAMP)
        book.job([("invariant", 1, "more", YES)])
        book.job([("fewer",)])
        book.undo()
        other = book.copy()
        self.assertEqual((other == book, other.log(), repr(other)), (True, book.log(), repr(book)))
        self.assertIs(type(other), Book)
        self.assertIs(other.redo(), True)
        self.assertEqual((len(other.development()[1]), len(book.development()[1])), (1, 2))
        self.assertNotEqual(other.log(), book.log())
        other.undo()
        other.undo()
        other.try_all()
        self.assertEqual((other.still_open(), len(book.still_open()) > 0), ((), True))
        self.assertEqual(book.log()[-1], ("undo", 1))
        self.assertIs(book.redo(), True)
        self.assertEqual((book.job([]), other.log()[-1]), ([], ("undo", 0)))
        other.job([])
        other.job([])
        self.assertEqual((book.log()[-1], other.log()[-1]), (("shut", 2, 0), ("shut", 3, 0)))
        third = other.copy()
        third.job([])
        self.assertEqual((third.log()[-1], other.log()[-1]), (("shut", 4, 0), ("shut", 3, 0)))

    def test_papers_of_a_copy(self):
        book = Book(LAMP)
        paper = paper_of((), goals_of(LAMP)[2])
        book.show(FITS_UP, paper)
        other = book.copy()
        self.assertEqual(other.paper(FITS_UP), paper)
        book.try_all()
        self.assertEqual(len(other.still_open()), 9)
        self.assertEqual(other.job([]), [])
        self.assertEqual(other.log(), [("open", 0), ("shut", 0, 0)])
        self.assertEqual(book.log(), [])


class SameTest(unittest.TestCase):
    def test_by_development_and_open_alone(self):
        one, other = Book(LAMP), Book(LAMP)
        self.assertTrue(one == other)
        self.assertFalse(one != other)
        one.show(FITS_UP, paper_of((), goals_of(LAMP)[2]))
        self.assertFalse(one == other)
        self.assertTrue(one != other)
        # By another PAPER, and with another log.
        other.job([])
        other.show(FITS_UP, ("split", ("on", None), (paper_of((), goals_of(LAMP)[2]),) * 2))
        self.assertTrue(one == other)
        other.job([("fewer",)])
        self.assertFalse(one == other)
        other.undo()
        self.assertTrue(one == other)
        self.assertFalse(Book(LAMP) == Book(TANK))
        # All GOALS of both are shown.
        self.assertFalse(shown(LAMP) == shown(TANK))

    def test_not_the_same_as_anything_else(self):
        book = Book(LAMP)
        for thing in [None, 0, True, "Book(2, 10, 10)", LAMP, book.goals(), [], (), {}, Book, len, object(), b""]:
            self.assertFalse(book == thing)
            self.assertTrue(book != thing)
            self.assertFalse(thing == book)
        for thing in (SameAsAll(), NotCompared()):
            self.assertFalse(book == thing)


if __name__ == "__main__":
    unittest.main()
