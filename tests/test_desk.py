"""[18]: a desk."""

import unittest

from faults import FAULTS
from odd_things import odd_things
from stairs import DEVELOPMENTS, DIAL_MODEL, JOBS, JOB_SETS, LAMP, LAMP_MODEL, SPOTS, TANK, changed
from stairwright.codes import made_code
from stairwright.desk import Desk
from stairwright.goals import asked_anew, goals_of
from stairwright.papers import break_of, paper_of
from stairwright.papercheck import check_paper
from stairwright.texts import development_text, expression_text, model_text
from test_book import too_great_development
from test_ends import COUNT
from words import NO, YES, elem, num, var

LINES = ["undo", "redo", "fewer", "goals", "open", "try", "show 1 up fits turns", "paper 1 up fits turns",
         "break 1 up fits turns", "run 1", "account 1", "code", "log", "model 1 ; model m", "more ; model m", "more ; "]


def with_text(word, text):
    return f"{word} ; " + text.replace("\n", " ; ")


def whole(development):
    return with_text("whole", development_text(development))


def desk_of(development):
    desk = Desk()
    desk.say(whole(development))
    return desk


def id_text(which):
    return " ".join("none" if part is None else str(part) for part in which)


def ids_text(ids):
    return ", ".join(map(id_text, ids)) or "none"


ALL_LAMP = ("1 start fits turns, 1 start stays glue, 1 up fits turns, 1 up stays glue, 1 up less none, "
            "1 snap fits turns, 1 snap stays glue, 1 reset fits turns, 1 reset stays glue, 1 none live none")


class DeskTest(unittest.TestCase):
    def assert_says(self, desk, *pairs):
        for line, answer in pairs:
            self.assertEqual(desk.say(line), answer, line[:300])

    def test_written_out(self):
        text = ("whole ; model lamp ; var on: truth ; start ;   on := no ; deed flip ;   on := (not on) ;  ; "
                "model dial ; "
                "var turns: num 3 ; keeps glue: (same on (less 1 turns)) ; start ;   turns := 0 ; deed up ; "
                "  when (or (same turns 0) (same turns 2)) ;   turns := (add turns 1) ; deed snap does flip ; "
                "  when (same turns 1) ;   turns := 2 ; deed reset does flip ;   when (same turns 3) ;   turns := 0 ; "
                "variant: (sub 3 turns)")
        self.assertEqual(whole(LAMP), text)
        self.assert_says(
            Desk(), ("goals", "no book"), (text, ALL_LAMP), ("goals", "10 10"), ("open", ALL_LAMP), ("log", "none"),
            ("paper 1 up fits turns", "open"), ("show 1 up fits turns",
                                                "(and (most 0 (add turns 1)) (most (add turns 1) 3))"),
            ("try", "10"), ("try", "0"), ("goals", "10 0"), ("open", "none"), ("paper 1 up fits turns", "1"),
            ("paper 1 start fits turns", "0"), ("break 1 up fits turns", "none"),
            ("run 5", "start up snap up reset up"),
            ("account 5", "on=no / turns=1"), ("account 2", "on=yes / turns=2"), ("undo", "nothing"),
            ("redo", "nothing"),
            ("log", "none"), ("fewer", "none"), ("log", "shut 0 1"), ("goals", "0 0"), ("fewer", "badchange"),
            ("log", "shut 1 0"), ("undo", "done"), ("log", "undo 0"), ("goals", "10 0"), ("redo", "done"),
            ("log", "redo 0"),
            ("run 1", "start flip"), ("account 3", "on=yes"), (text, "none"), ("log", "shut 2 1"), ("goals", "10 0"),
            ("undo", "done"), ("goals", "0 0"))

    def test_no_book(self):
        desk = Desk()
        for line in LINES:
            self.assertEqual(desk.say(line), "no book")
        self.assert_says(desk, ("whole ; ", "badtext 1"), ("goals", "no book"), ("undo ", "no line"),
                         ("whole", "no line"))
        self.assertEqual(desk.say(whole(LAMP)), ALL_LAMP)
        for line in LINES:
            self.assertNotIn(desk.say(line), ("no book", "no line"))

    def test_whole_behind_the_first_is_a_job(self):
        desk = Desk()
        self.assertEqual(desk.say(whole(LAMP)), ALL_LAMP)
        self.assertEqual(desk.say(whole(LAMP)), "none")
        self.assertEqual(desk.say("log"), "shut 0 1")
        self.assertEqual(desk.say(whole(TANK)), ids_text(goal[0] for goal in goals_of(TANK)))
        self.assertEqual(desk.say(whole(((), LAMP[1][:1]))), "none")
        self.assert_says(desk, ("undo", "done"), ("undo", "done"), ("goals", "10 10"))
        self.assertEqual(Desk().say(whole(((), LAMP[1][:1]))), "none")

    def test_model_and_more(self):
        desk = desk_of(LAMP)
        desk.say("try")
        other = changed(DIAL_MODEL, (4, 2, 4, 0, 2), num(2))
        self.assertEqual(desk.say(with_text("model 1", model_text(other))), "1 reset fits turns, 1 reset stays glue")
        self.assert_says(desk, ("try", "1"), ("open", "1 reset stays glue"), ("paper 1 reset stays glue", "open"),
                         ("break 1 reset stays glue", "on=yes turns=3"), ("log", "shut 0 1"), ("undo", "done"),
                         ("fewer", "none"))
        self.assertEqual(desk.say(with_text("more", model_text(DIAL_MODEL))), "none")
        self.assertEqual(desk.say("goals"), "10 0")
        desk = desk_of((JOB_SETS, JOBS[1][:2]))
        told = desk.say(with_text("more", model_text(JOBS[1][2])))
        self.assertEqual(told, ids_text(asked_anew((JOB_SETS, JOBS[1][:2]), (JOB_SETS, JOBS[1][:3]))))
        # As of the START above it, that one was OPEN ahead.
        self.assertNotIn("2 start does last", told)
        self.assertIn("2 start does last", desk.say("open"))

    def test_refused_changes(self):
        desk = desk_of(LAMP)
        self.assert_says(
            desk, (with_text("model 2", model_text(DIAL_MODEL)), "badchange"),
            (with_text("model 9999", model_text(DIAL_MODEL)), "badchange"),
            (with_text("model 0", model_text(DIAL_MODEL)), "badmodel"),
            (with_text("more", model_text(DIAL_MODEL)), "badmodel"),
            ("more ; model m ; start", "badmodel"), ("model 1 ; ", "badtext 1"), ("model 5 ; ", "badtext 1"),
            ("model 5 ; model m", "badtext 1"), ("more ; model m ; start ;  v := 1", "badtext 3"),
            ("more ;  ; model m", "badtext 1"),
            ("more ; model m ; start ; ", "badtext 3"), ("more ; model m ; deed d", "badtext 2"),
            ("whole ; ", "badtext 1"), ("whole ; model m ; start", "badtext 2"), ("whole ;  ; ", "badtext 1"),
            (whole(LAMP) + " ; ", "badtext 23"), (whole(LAMP).replace("model dial", "model lamp"), "badtext 22"),
            (whole(LAMP).replace("start ;   turns", "start ; turns"), "badtext 12"), ("goals", "10 10"),
            ("undo", "nothing"),
            # These were JOBS; to read the text comes ahead of them.
            ("log", "shut 4 0"))

    def test_ids_of_each_kind(self):
        for development in DEVELOPMENTS.values():
            desk = desk_of(development)
            goals = goals_of(development)
            self.assertEqual(desk.say("open"), ids_text(goal[0] for goal in goals))
            self.assertEqual(desk.say("goals"), f"{len(goals)} {len(goals)}")
            for goal in goals:
                text = id_text(goal[0])
                self.assertEqual(desk.say("show " + text), expression_text(goal[3]))
                self.assertEqual(desk.say("paper " + text), "open")
                self.assertEqual(desk.say("break " + text), "none")
            self.assertEqual(desk.say("try"), str(len(goals)))
            for goal in goals:
                paper = paper_of(development[0], goal)
                self.assertEqual(desk.say("paper " + id_text(goal[0])), str(check_paper(development[0], goal, paper)))
        self.assertIn("1 last guard 1", desk_of(TANK).say("open"))

    def test_names_that_are_none(self):
        # A DEED, a VARIABLE and a LABEL may be called so.
        low = ("low", (("none", ("num", 3)),), (("none", ("less", var("none"), num(3))),),
               ((("be", "none", num(0)),), ()), (
            ("none", None, (), (("less", var("none"), num(2)),), (("be", "none", ("add", var("none"), num(1))),), ()),),
               ("sub", num(3), var("none")))
        desk = desk_of(((), (LAMP_MODEL, low)))
        self.assert_says(desk, ("open", "1 start fits none, 1 start stays none, 1 none fits none, 1 none stays none, "
                                "1 none less none, 1 none live none"),
                         ("show 1 none stays none", "(less (add none 1) 3)"),
                         ("show 1 none live none", "(less none 2)"),
                         ("paper 1 none less none", "open"), ("run 3", "start none none stop"),
                         ("account 1", "on=no / none=1"), ("break 1 none live none", "on=no none=2"))

    def test_no_goal(self):
        desk = desk_of(LAMP)
        for word in ("show", "paper", "break"):
            for text in ["1 up fits on", "0 up fits turns", "9999 up fits turns", "1 up guard 0", "1 up guard 9999",
                         "1 none live 0",
                         "1 none none none", "1 flip stays glue", "1 up live none", "0 none live none",
                         "1 up never turns"]:
                self.assertEqual(desk.say(f"{word} {text}"), "nogoal")
            for text in ["", "1", "1 up fits", "1 up fits turns 0", "01 up fits turns", "00001 up fits turns",
                         "10000 up fits turns",
                         "-1 up fits turns", "x up fits turns", "none up fits turns", "1 Up fits turns",
                         "1 0 fits turns",
                         "1 yes fits turns", "1 up fits turns'", "1 up 0 turns", "1 up fits 01", "1 up fits -1",
                         "1 up fits 10000",
                         "1 up fits yes", "1  up fits turns", " 1 up fits turns", "1 up fits turns ",
                         "1 up fits abcdefghi",
                         "1, up, fits, turns", "(1 up fits turns)", "1 up fits turns ; ", "1 up fits turns ; x"]:
                self.assertEqual(desk.say(f"{word} {text}"), "no line", text)

    def test_breaks(self):
        sets = (("jobs", ("a", "b", "c")),)
        kinds = [("n", ("num", 3)), ("t", ("truth",)), ("e", ("one", "jobs")), ("s", ("some", "jobs")),
                 ("m", ("map", "jobs", ("truth",)))]
        wants = [("same", var("n"), num(2)), var("t"), ("same", var("e"), elem("b")),
                 ("same", var("s"), ("but", ("every", "jobs"), ("just", elem("b")))),
                 ("same", var("m"), ("put", ("all", "jobs", YES), elem("a"), NO))]
        guards = (("and", wants[0], wants[1]), wants[2], wants[3], wants[4])
        model = ("one", tuple(kinds), (("small", ("less", var("n"), num(3))),), (tuple(
            ("be", name, worth) for (name, _), worth in zip(kinds, [num(0), NO, elem("a"), ("none", "jobs"), (
                "all", "jobs", NO)])), ()), (
            ("go", None, (("p", ("num", 1)),), guards,
             (("be", "n", ("add", var("n"), num(1))), ("from", "e", ("just", elem("c")))),
             ()),), None)
        desk = desk_of((sets, (model,)))
        answer = desk.say("break 0 go stays small")
        self.assertIn(answer, [f"n=2 t=yes e=b s=[a,c] m=[no,yes,yes] p={number} e'=c" for number in (0, 1)])
        self.assertEqual(desk.say("break 0 go stays small"), answer)
        self.assertEqual(desk.say("break 0 start stays small"), "none")
        empty = changed(model, (4, 0, 3, 2), ("same", var("s"), ("none", "jobs")))
        self.assertIn(" s=[] ", desk_of((sets, (empty,))).say("break 0 go stays small"))
        wrong = changed(model, (2, 0, 1), ("less", num(0), var("n")))
        self.assertEqual(desk_of((sets, (wrong,))).say("break 0 start stays small"), "any")
        wrong = changed(changed(SPOTS, (1, 1, 3, 0, 0), ("from", "flag", YES))[1][1], (3, 0, 0), ("be", "flag", NO))
        self.assertEqual(desk_of((SPOTS[0], (SPOTS[1][0], wrong))).say("break 1 start stays glue"), "any")

    def test_breaks_as_break_of_tells(self):
        for name, (development, _, goal) in FAULTS.items():
            if goal is not None:
                state = break_of(development[0], [one for one in goals_of(development) if one[0] == goal][0])
                told = desk_of(development).say("break " + id_text(goal))
                with self.subTest(name):
                    self.assertEqual([part.split("=")[0] for part in told.split(" ")] if state else told,
                                     list(state) or "any")

    def test_runs_and_accounts(self):
        desk = desk_of(COUNT)
        names = ["half", "whole"] * 3
        for marks in range(1, 51):
            self.assertEqual(desk.say(f"run {marks}"),
                             " ".join(["start", *names[:marks], *(["stop"] if marks > 6 else [])]))
        self.assert_says(desk, ("account 1", "done=0 / n=1"), ("account 2", "done=1 / n=2"),
                         ("account 50", "done=3 / n=6"))
        desk = desk_of(JOBS)
        self.assert_says(
            desk, ("run 7", "start takea put takeb put takec put again"),
            ("account 3",
             "done=[a] last=a / work=[2,1,0] last=a / "
             "todo=[c] held=b busy=yes last=a / next=2 held=b busy=yes last=a"),
            ("account 6",
             "done=[a,b,c] last=c / work=[2,2,2] last=c / "
             "todo=[] held=c busy=no last=c / next=3 held=c busy=no last=c"),
            ("account 7",
             "done=[] last=b / work=[0,0,0] last=b / "
             "todo=[a,b,c] held=c busy=no last=b / next=0 held=c busy=no last=b"),
            ("code", str(len(made_code(JOBS)))))
        idle = changed(COUNT, (1, 1, 3, 0, 0, 2), num(6))
        self.assert_says(desk_of(idle), ("run 1", "start stop"), ("account 50", "broken none 1 start stays glue"))

    def test_how_many_marks(self):
        desk = desk_of(COUNT)
        for word in ("run", "account"):
            for text in ["0", "51", "100", "9999", "01", "001", "-1", "+1", "", " ", "1 ", " 1", "1 1", "x", "1.0",
                         "10000", "0001",
                         "none", "1 ; ", "5 ; 5"]:
                self.assertEqual(desk.say(f"{word} {text}"), "no line", text)
            self.assertEqual(desk.say(word), "no line")
        self.assertEqual(len(desk.say("run 50").split(" ")), 8)

    def test_refusals_of_runs_and_accounts(self):
        self.assert_says(desk_of(TANK), ("run 1", "notmade"), ("account 1", "notmade"), ("code", "notmade"))
        beyond = changed(COUNT, (1, 1, 4, 1, 3, 1), YES)
        beyond = changed(beyond, (1, 1, 4, 0, 3, 1), YES)
        self.assert_says(desk_of(beyond), ("run 6", "start half whole half whole half whole"), ("run 7", "badrun"),
                         ("account 7", "badrun"),
                         ("account 6",
             "done=3 / n=6"), ("code", str(len(made_code(beyond)))))
        wrong = changed(COUNT, (1, 0, 2), (("few", ("less", var("done"), num(2))),))
        self.assert_says(desk_of(wrong), ("account 3",
             "done=1 / n=3"), ("account 4", "broken 3 0 finish stays few"),
                         ("account 50", "broken 3 0 finish stays few"),
                         ("run 50", "start half whole half whole half whole stop"))
        wrong = changed(COUNT, (1, 1, 5), num(3))
        self.assert_says(desk_of(wrong), ("account 1", "broken 0 1 half less none"))
        great = ("less", num(99), ("add", ("add", var("a"), var("b")), ("add", var("c"), var("d"))))
        for name in "abcd":
            great = ("any", name, ("num", 15), great)
        great = changed(COUNT, (1, 1, 4, 0, 3, 1), ("not", great))
        self.assert_says(desk_of(great), ("run 1", "toogreat"), ("account 1", "toogreat"),
                         ("code", str(len(made_code(great)))))

    def test_what_is_too_great(self):
        desk = desk_of(too_great_development([f"{letter}{number}" for letter in "ab" for number in range(6)]))
        self.assertEqual(desk.say("break 1 go stays odd"), "toogreat")
        self.assertEqual(desk.say("show 1 go stays odd")[:20], "(not (same (mul 2 (a"[:20])

    def test_goals_greater_than_any_that_are_promised(self):
        long = var("n")
        for _ in range(7):
            long = ("add", long, long)
        model = ("one", (("n", ("num", 3)),), (("small", ("less", num(0), long)),), ((("be", "n", num(1)),), ()), (
            ("go", None, (), (), (("be", "n", long),), ()),), None)
        desk = desk_of(((), (model,)))
        self.assert_says(desk, ("break 0 go stays small", "badgoal"), ("break 0 start stays small", "none"),
                         ("goals", "4 4"), ("run 1", "badrun"))

    def test_no_line(self):
        for desk in (Desk(), desk_of(LAMP)):
            for line in ["", " ", "  ", "hello", "Goals", "goals ", " goals", "goals  ", "goals 1", "undo 1",
                         "undo ; ", "undo ; x",
                         "goals ; ", "open ; ", "try ; ", "code ; ", "log ; ", "fewer ; ", "fewer 1", "more", "more ;",
                         "more ; "[:-1],
                         "more;x", "more  ; x", " more ; x", "more 1 ; x", "whole", "whole ;", "whole  ; x",
                         "whole 1 ; x", "model",
                         "model 1", "model ; x", "model x ; y", "model 01 ; x", "model -1 ; x", "model 1 2 ; x",
                         "model 10000 ; x",
                         "model  1 ; x", "model 1  ; x", "model one ; x", " ; whole", " ; ", ";", "\n", "goals\n",
                         "undo\nredo",
                         "whole ; model m\nstart", "more ; \n", "show", "paper", "break", "run", "account", "log log",
                         "code 5",
                         "\tgoals", "goals\t", "no line", "none", "whole ; \n"]:
                self.assertEqual(desk.say(line), "no line", repr(line))
            for thing in odd_things() + [0, 1, True, None, b"goals", ["goals"], ("goals",), {"goals": 1}]:
                if not isinstance(thing, str):
                    self.assertEqual(desk.say(thing), "no line")
            self.assertEqual(desk.say("a" * 20000), "no line")

    def test_long_texts(self):
        desk = desk_of(LAMP)
        self.assertEqual(desk.say("more ; " + "(" * 20000), "badtext 1")
        self.assertEqual(desk.say("more ; model m" + " ; var v: truth" * 3000), "badtext 3001")
        self.assertEqual(desk.say("whole ; model m ; start ;   v := " + "(not " * 5000 + "yes" + ")" * 5000),
                         "badtext 3")

    def test_two_desks(self):
        one, other = Desk(), Desk()
        one.say(whole(LAMP))
        self.assertEqual(other.say("goals"), "no book")
        other.say(whole(TANK))
        self.assertEqual(one.say("goals"), "10 10")

    def test_by_the_name_of_its_argument(self):
        self.assertEqual(Desk().say(line="goals"), "no book")
        self.assertIn("say", vars(Desk))


if __name__ == "__main__":
    unittest.main()
