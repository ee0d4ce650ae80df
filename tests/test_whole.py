"""Over the whole: from texts to goals, papers, codes and accounts, for a DEVELOPMENT of two LEVELS by hand."""

import unittest

from stairwright.accounts import account_of, check_account
from stairwright.book import Book
from stairwright.breaks import run_that_breaks
from stairwright.codes import is_code, made_code
from stairwright.desk import Desk
from stairwright.ends import is_upheld, upheld
from stairwright.goals import goal_of, goals_of
from stairwright.machine import Machine, run_of
from stairwright.models import is_made, need_development
from stairwright.papercheck import check_break, check_paper
from stairwright.papers import break_of, paper_of
from stairwright.runs import following, is_run, run_by, starts
from stairwright.texts import code_text, development_text, read_code, read_development

# Someone is let in as long as there is room, and goes out again; below, two doors are told apart, and a lamp is on
# while someone is in.
TEXT = """set doors: east west

model hall
var many: num 2
var last: one doors
keeps room: (most many 2)
start
  many := 0
  last from (every doors)
deed come
  param d: one doors
  when (less many 2)
  many := (add many 1)
  last := d
deed leave
  when (less 0 many)
  many := (sub many 1)

model lamp
var in: map doors num 2
var on: truth
var last: one doors
keeps glue: (same many (add (at in east) (at in west)))
keeps lit: (same on (less 0 many))
start
  in := (all doors 0)
  on := no
  last := west
deed enter does come
  when (less (add (at in east) (at in west)) 2)
  when (not (same last east))
  in := (put in east (add (at in east) 1))
  on := yes
  last := east
  help d: east
deed other does come
  when (less (add (at in east) (at in west)) 2)
  in := (put in west (add (at in west) 1))
  on := yes
  last := west
  help d: west
deed out does leave
  when (any d1 one doors (less 0 (at in d1)))
  in := (if (less 0 (at in west)) (put in west (sub (at in west) 1)) (put in east (sub (at in east) 1)))
  on := (less 1 (add (at in east) (at in west)))"""


def hall(many, last):
    return {"many": many, "last": last}


def lamp(east, west, on, last):
    return {"in": (east, west), "on": on, "last": last}


RUN = (lamp(0, 0, False, "west"), (
    ("enter", (), lamp(1, 0, True, "east")), ("other", (), lamp(1, 1, True, "west")),
    ("out", (), lamp(1, 0, True, "west")),
    ("enter", (), lamp(2, 0, True, "east")), ("out", (), lamp(1, 0, True, "east")),
    ("other", (), lamp(1, 1, True, "west"))))
ACCOUNT = ((hall(0, "west"), lamp(0, 0, False, "west")), (
    (("come", ("east",), hall(1, "east")), RUN[1][0]), (("come", ("west",), hall(2, "west")), RUN[1][1]),
    (("leave", (), hall(1, "west")), RUN[1][2]), (("come", ("east",), hall(2, "east")), RUN[1][3]),
    (("leave", (), hall(1, "east")), RUN[1][4]), (("come", ("west",), hall(2, "west")), RUN[1][5])))


class WholeTest(unittest.TestCase):
    def test_from_texts_to_accounts(self):
        development = read_development(TEXT)
        need_development(development)
        self.assertEqual(development_text(development), TEXT)
        carriers, models = development
        for goal in goals_of(development):
            with self.subTest(goal[0]):
                self.assertGreaterEqual(check_paper(carriers, goal, paper_of(carriers, goal)), 0)
                self.assertIsNone(break_of(carriers, goal))
        self.assertEqual([is_made(model) for model in models], [False, True])
        code = made_code(development)
        self.assertIs(is_code(code), True)
        self.assertEqual(read_code(code_text(code)), code)
        self.assertEqual(run_of(development, code, marks=6), (RUN, False))
        self.assertEqual(account_of(development, RUN), ACCOUNT)
        self.assertIs(check_account(development, RUN, ACCOUNT), True)
        self.assertEqual(upheld(development, marks=6), (RUN, ACCOUNT, False))
        self.assertIs(is_upheld(development, (RUN, ACCOUNT, False), marks=6), True)
        machine = Machine(code)
        self.assertEqual([machine.to_mark() for _ in range(7)], [0, 1, 2, 3, 1, 3, 2])
        self.assertEqual(machine.boxes(4), (1, 1, 1, 1))

    def test_each_run_has_an_account(self):
        development = read_development(TEXT)
        carriers, models = development
        for first in range(3):
            for second in range(3):
                for third in range(3):
                    run = run_by(carriers, models[1], [0, first, second, third, second, first, 1, 2, 0])
                    self.assertIs(is_run(carriers, models[1], run), True)
                    account = account_of(development, run)
                    self.assertIs(check_account(development, run, account), True)
                    self.assertIs(is_run(carriers, models[0], (account[0][0], tuple(row[0] for row in account[1]))),
                                  True)
        self.assertEqual(starts(carriers, models[1]), [RUN[0]])
        self.assertEqual([step[0] for step in following(carriers, models[1], RUN[1][0][2])], ["other", "out"])

    def test_a_fault_and_its_mending(self):
        book = Book(read_development(TEXT))
        self.assertEqual((len(book.try_all()), book.still_open()), (len(book), ()))
        on = book.development()[1][1][4][2][4][1]
        wrong = (book.development()[1][1][4][2][4][0], ("be", "on", ("no",)))
        told = book.job([("actions", 1, "out", wrong)])
        self.assertEqual(told, [((1, "out", "stays", "lit"),)])
        self.assertEqual(book.try_all(), ())
        development = book.development()
        which = book.still_open()[0]
        goal = goal_of(development, which)
        self.assertIs(check_break(development[0], goal, break_of(development[0], goal)), True)
        run = run_that_breaks(development, which)
        self.assertEqual([step[0] for step in run[1]][-1], "out")
        self.assertEqual(len(run[1]), 3)
        told = book.job([("actions", 1, "out", (wrong[0], on))])
        self.assertEqual((told, book.still_open(), development_text(book.development())), ([()], (), TEXT))

    def test_by_a_desk(self):
        desk = Desk()
        many = len(goals_of(read_development(TEXT)))
        self.assertEqual(len(desk.say("whole ; " + TEXT.replace("\n", " ; ")).split(", ")), many)
        for line, answer in [
            ("goals", f"{many} {many}"), ("try", str(many)), ("open", "none"),
            ("run 6", "start enter other out enter out other"),
            ("account 6", "many=2 last=west / in=[1,1] on=yes last=west"), ("break 1 out stays lit", "none"),
            ("show 1 other does last", "(same west west)"), ("code", str(len(made_code(read_development(TEXT))))),
        ]:
            self.assertEqual(desk.say(line), answer)


if __name__ == "__main__":
    unittest.main()
