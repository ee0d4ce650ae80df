"""[17]: how EXPRESSIONS, MODELS, DEVELOPMENTS and CODES are written and read."""

import copy
import random
import unittest

from faults import GOOD
from odd_things import odd_things
from plain_parts import Maker
from stairs import DEVELOPMENTS, JOBS, JOB_SETS, LAMP, TANK, changed
from stairwright.codes import made_code
from stairwright.errors import BadText
from stairwright.goals import goals_of
from stairwright.models import is_development
from stairwright.texts import (code_text, development_text, expression_text, model_text, read_code, read_development,
                               read_expression, read_model)
from words import NO, YES, elem, nested, num, var

LAMP_TEXT = """model lamp
var on: truth
start
  on := no
deed flip
  on := (not on)

model dial
var turns: num 3
keeps glue: (same on (less 1 turns))
start
  turns := 0
deed up
  when (or (same turns 0) (same turns 2))
  turns := (add turns 1)
deed snap does flip
  when (same turns 1)
  turns := 2
deed reset does flip
  when (same turns 3)
  turns := 0
variant: (sub 3 turns)"""

GOOD_TEXT = """set jobs: a b

model top
var k: num 5
var s: one jobs
var z: num 3
var x: num 9
var r: one jobs
keeps small: (most k 4)
keeps like: (most x 9)
start
  k := 0
  s from (every jobs)
  z := 0
  x := 2
  r from (every jobs)
deed act
  param p: num 3
  when (most p 2)
  when (most (add k p) 4)
  when (most (add x p) 9)
  k := (add k p)
  s from (but (every jobs) (just s))
  x := (add x p)
  r from (every jobs)
deed idle

model low
var k: num 5
var f: truth
var z: num 3
var c: num 9
var r: one jobs
keeps glue: (same f (same s a))
keeps sum: (same x (add k 2))
start
  k := 0
  f := yes
  z := 0
  c := 0
  r from (every jobs)
  help s: a
deed go does act
  when (less k 4)
  k := (add k 1)
  f := (not f)
  r from (just r)
  help p: 1
  help s: (if f b a)
deed rest
  when (same k 4)
  when (less c 9)
  c := (add c 1)
deed stay does idle
  when (same c 9)
variant: (sub 9 c)"""


class Refusing(unittest.TestCase):
    def assert_refused(self, line, read, *handed):
        with self.assertRaises(ValueError, msg=repr(handed)[:300]) as caught:
            read(*handed)
        self.assertIs(type(caught.exception), BadText)
        self.assertEqual(caught.exception.line, line, repr(handed[-1])[:3000])
        self.assertIs(type(caught.exception.line), type(line))


WRITTEN = {
    "0": num(0), "99": num(99), "yes": YES, "no": NO, "a": elem("a"), "left": elem("left"), "n": var("n"),
    "jobs": var("jobs"), "(none jobs)": ("none", "jobs"), "(every spots)": ("every", "spots"),
    "(add 1 2)": ("add", num(1), num(2)), "(sub n 0)": ("sub", var("n"), num(0)), "(mul 9 9)": ("mul", num(9), num(9)),
    "(less 1 n)": ("less", num(1), var("n")), "(most 1 n)": ("most", num(1), var("n")),
    "(same a b)": ("same", elem("a"), elem("b")), "(not yes)": ("not", YES), "(and yes no)": ("and", YES, NO),
    "(or yes no)": ("or", YES, NO), "(then yes no)": ("then", YES, NO), "(if yes 1 2)": ("if", YES, num(1), num(2)),
    "(in a s)": ("in", elem("a"), var("s")), "(within s t)": ("within", var("s"), var("t")),
    "(both s t)": ("both", var("s"), var("t")), "(either s t)": ("either", var("s"), var("t")),
    "(but s t)": ("but", var("s"), var("t")), "(just a)": ("just", elem("a")), "(count s)": ("count", var("s")),
    "(all jobs 3)": ("all", "jobs", num(3)), "(at m a)": ("at", var("m"), elem("a")),
    "(put m a 1)": ("put", var("m"), elem("a"), num(1)),
    "(each x one jobs (then (in x (just a)) (less n 3)))": (
        "each", "x", ("one", "jobs"), ("then", ("in", var("x"), ("just", elem("a"))), ("less", var("n"), num(3)))),
    "(any x num 15 (same x 0))": ("any", "x", ("num", 15), ("same", var("x"), num(0))),
    "(any num truth num)": ("any", "num", ("truth",), var("num")),
    "(each truth one spots (any one num 1 yes))": ("each", "truth", ("one", "spots"), ("any", "one", ("num", 1), YES)),
    # Whatever their SORTS are.
    "(add yes (none jobs))": ("add", YES, ("none", "jobs")), "(not (not 3))": ("not", ("not", num(3))),
    "(each a one jobs (in a a))": ("each", "a", ("one", "jobs"), ("in", elem("a"), elem("a"))),
}


def of_parts(many):
    """An EXPRESSION of so many, not deep."""
    if many <= 2:
        return num(1) if many == 1 else ("not", num(1))
    return ("add", of_parts((many - 1) // 2), of_parts(many - 1 - (many - 1) // 2))


class ExpressionTest(Refusing):
    def test_each_word(self):
        for text, expression in WRITTEN.items():
            self.assertEqual(expression_text(expression), text)
            self.assertEqual(read_expression(JOB_SETS, text), expression)

    def test_an_element_or_a_variable(self):
        self.assertEqual(read_expression((), "(same a left)"), ("same", var("a"), var("left")))
        self.assertEqual(read_expression(JOB_SETS[:1], "(same a left)"), ("same", elem("a"), var("left")))
        self.assertEqual(read_expression(JOB_SETS, "(same a left)"), ("same", elem("a"), elem("left")))

    def test_those_of_goals(self):
        self.assertEqual(expression_text(("in", var("x'"), ("just", elem("a")))), "(in x' (just a))")
        self.assertEqual(expression_text(("each", "m'", ("one", "jobs"),
                                          ("same", ("at", var("m"), var("m'")), num(0)))),
                         "(each m' one jobs (same (at m m') 0))")
        for text in ["x'", "(not x')", "(each m' one jobs yes)"]:
            self.assert_refused(1, read_expression, JOB_SETS, text)
        for development in DEVELOPMENTS.values():
            for _, _, hyps, wish in goals_of(development):
                for expression in (*hyps, wish):
                    text = expression_text(expression)
                    if "'" not in text:
                        self.assertEqual(read_expression(development[0], text), expression)

    def test_by_chance(self):
        context = {"n": ("num", 3), "s": ("some", "jobs"), "m": ("map", "jobs", ("one", "spots")), "t": ("truth",)}
        for seed in range(200):
            maker = Maker(random.Random(seed), JOB_SETS, context)
            expression = maker.made(maker.a_sort(), 6, {})
            self.assertEqual(read_expression(JOB_SETS, expression_text(expression)), expression)

    def test_how_many_and_how_deep(self):
        for deep in (1, 29, 30):
            expression = nested("not", YES, deep - 1)
            self.assertEqual(read_expression((), expression_text(expression)), expression)
        for deep in (31, 32, 200, 5000):
            self.assert_refused(1, read_expression, (), "(not " * (deep - 1) + "yes" + ")" * (deep - 1))
        for begin, end in [("(each x truth ", ")"), ("(any x one jobs ", ")"), ("(all jobs ", ")"), ("(in a ", ")"),
                           ("(if yes ", " no)"), ("(put m a ", ")")]:
            for deep in (2, 30, 31, 32, 200):
                text = begin * (deep - 1) + "yes" + end * (deep - 1)
                if deep <= 30:
                    self.assertEqual(expression_text(read_expression(JOB_SETS, text)), text)
                else:
                    self.assert_refused(1, read_expression, JOB_SETS, text)
        for many in (1, 2, 3, 400, 599, 600):
            expression = of_parts(many)
            self.assertEqual(read_expression((), expression_text(expression)), expression)
        for many in (601, 602, 5000):
            self.assert_refused(1, read_expression, (), expression_text(of_parts(many)))

    def test_what_is_not_written_so(self):
        for text in [
            "", " ", "yes ", " yes", "Yes", "YES", "yes no", "n'", "n-1", "-1", "+1", "100", "01", "00", "099", "1.0",
            "9" * 4000, "1" * 4001, "1" * 20000, "()", "( )", "(", ")", "(yes)", "(no)", "(n)", "(3)", "(num 3)",
            "(var n)",
            "(elem a)", "((not yes))", "not yes", "(not yes", "not yes)", "(not yes))", "((not yes)", "( not yes)",
            "(not yes )", "(not  yes)", "(not\tyes)", "(not\nyes)", "\n", "yes\n", "\nyes", "(not yes)\n",
            "(Not yes)", "(never yes)", "(not)", "(not yes no)", "(and yes)", "(and yes no yes)", "(if yes 1)",
            "(if yes 1 2 3)", "(none)", "(none jobs spots)", "(none a)", "(none tools)", "(none yes)",
            "(none (every jobs))",
            "(every)", "(every n)", "(all jobs)", "(all tools 1)", "(all 1)", "(all jobs 1 2)", "(all a 1)",
            "(each x num 0 yes)", "(each x num 16 yes)", "(each x num 03 yes)", "(each x num yes)",
            "(each x num n yes)",
            "(each x truth)", "(each x truth yes no)", "(each truth yes)", "(each x one yes)", "(each x one tools yes)",
            "(each x one a yes)", "(each x some jobs yes)", "(each x map jobs truth yes)", "(each yes truth yes)",
            "(each X truth yes)", "(each x' truth yes)", "(each 3 truth yes)", "(each (var x) truth yes)",
            "(each abcdefghi truth yes)", "abcdefghi", "1a", "a b", "a_b", "(add 1,2)", "(add 1 2) ", "[a]",
            "(div 1 2)",
            "(add1 2)", "(add 1 2)3", "(add (add 1 2)3)", "(add(add 1 2) 3)", "(add 1(add 1 2))", "3(add 1 2)", "()yes",
            "(each x num " + "1" * 5000 + " yes)",
        ]:
            self.assert_refused(1, read_expression, JOB_SETS, text)

    def test_no_text(self):
        for thing in odd_things() + [1, True, ("yes",), ["yes"], b"yes"]:
            if not isinstance(thing, str):
                self.assert_refused(None, read_expression, (), thing)
        for thing in odd_things():
            if isinstance(thing, str) and thing not in ("yes", "no"):
                self.assert_refused(1, read_expression, (), thing)


class DevelopmentTest(Refusing):
    def test_written_out(self):
        self.assertEqual(development_text(LAMP), LAMP_TEXT)
        self.assertEqual(read_development(LAMP_TEXT), LAMP)
        self.assertEqual(development_text(GOOD), GOOD_TEXT)
        self.assertEqual(read_development(GOOD_TEXT), GOOD)

    def test_as_the_very_same(self):
        for carriers, models in DEVELOPMENTS.values():
            text = development_text((carriers, models))
            self.assertEqual(read_development(text), (carriers, models))
            parts = text.split("\n\n")
            texts = [model_text(model) for model in models]
            self.assertEqual(parts[len(parts) - len(models):], texts)
            for model in models:
                self.assertEqual(read_model(carriers, model_text(model)), model)

    def test_types(self):
        kinds = {"num 1": ("num", 1), "num 15": ("num", 15), "truth": ("truth",), "one jobs": ("one", "jobs"),
                 "some spots": ("some", "spots"), "map jobs num 3": ("map", "jobs", ("num", 3)),
                 "map spots truth": ("map", "spots", ("truth",)), "map jobs one jobs": ("map", "jobs", ("one", "jobs"))}
        for text, kind in kinds.items():
            row = f"model m\nvar v: {text}\nstart\ndeed d"
            model = ("m", (("v", kind),), (), ((), ()), (("d", None, (), (), (), ()),), None)
            self.assertEqual(read_model(JOB_SETS, row), model)
            self.assertEqual(model_text(model), row)
            row = f"model m\nstart\ndeed d\n  param p: {text}"
            if kind[0] in ("some", "map"):
                self.assert_refused(4, read_model, JOB_SETS, row)
            else:
                self.assertEqual(read_model(JOB_SETS, row)[4][0][2], (("p", kind),))
        for text in ["num 0", "num 16", "num 01", "num", "num x", "num 3 4", "Num 3", "truth ", " truth", "truth truth",
                     "one", "one tools", "one a", "one jobs spots", "some", "some a", "some jobs jobs", "map",
                     "map jobs",
                     "map jobs num", "map jobs num 0", "map jobs some jobs", "map jobs map jobs truth", "map a truth",
                     "map jobs  truth", "(num 3)", "num 3)", "num (3", "", "yes", "num " + "1" * 4000,
                     "num " + "1" * 5000,
                     "map jobs truth truth", "num -1", "num +3", "set jobs"]:
            self.assert_refused(2, read_model, JOB_SETS, f"model m\nvar v: {text}\nstart\ndeed d")
            self.assert_refused(4, read_model, JOB_SETS, f"model m\nstart\ndeed d\n  param v: {text}\n")

    def test_names_that_are_words(self):
        words = ["when", "param", "help", "from", "start", "deed", "does", "model", "var", "keeps", "set", "variant",
                 "num"]
        for word in words:
            for other in words:
                row = (f"model {word}\nvar {word}: num 3\nkeeps {word}: {other}\nstart\n  {word} := {other}\n"
                       f"  {word} from {other}\n  help {word}: {other}\ndeed {word} does {other}\n"
                       f"  param {word}: truth\n"
                       f"  when {other}\n  {word} := (add {word} 1)\n  {word} from (just {other})\n"
                       f"  help {word}: {other}\nvariant: {word}")
                found = read_model((), row)
                self.assertEqual(model_text(found), row)
                self.assertEqual(found[4][0][3], (var(other),))
                self.assertEqual([action[1] for action in found[4][0][4]], [word, word])

    def test_where_a_model_may_stand_is_not_looked_at(self):
        for text in ["model m\nstart", "model m\nvar v: num 3\nvar v: num 3\nstart\n  w := yes\n  w := yes",
                     "model m\nkeeps a: 1\nkeeps a: 2\nstart\ndeed start\ndeed d does d\n"
                     "  param p: truth\n  param p: truth",
                     "model m\nstart\nvariant: yes", "model m\n" + "var v: truth\n" * 20 + "start" + "\ndeed d" * 20,
                     "model m\nstart\ndeed d" + "\n  when yes" * 30 + "\n  x from 3" * 30 + "\n  help x: 3" * 30]:
            self.assertEqual(model_text(read_model((), text)), text)
        for model in TANK[1]:
            text = model_text(model)
            # Where the ELEMENTS aren't, these are variables.
            self.assertEqual(model_text(read_model((), text)), text)

    def test_a_missing_start(self):
        self.assert_refused(1, read_model, (), "model m")
        self.assert_refused(2, read_model, (), "model m\nvar v: num 3")
        self.assert_refused(4, read_model, (), "model m\nvar v: num 3\nkeeps k: yes\nvariant: 3")
        self.assert_refused(4, read_model, (), "model m\nvar v: num 3\ndeed d\n  v := 3")
        self.assert_refused(2, read_development, "model m\nvar v: num 3")
        text = LAMP_TEXT.replace("start\n  turns := 0\n", "")
        self.assert_refused(len(text.split("\n")), read_development, text)
        text = LAMP_TEXT.replace("start\n  on := no\n", "")
        self.assert_refused(len(text.split("\n")), read_development, text)
        text = LAMP_TEXT.replace("start\n  on := no\n", "  on := no\n")
        self.assert_refused(3, read_development, text)

    def rows(self, text=GOOD_TEXT):
        return text.split("\n")

    def assert_row_refused(self, number, row, text=GOOD_TEXT):
        """With that line in the place of the one of that number."""
        rows = self.rows(text)
        rows[number - 1] = row
        self.assert_refused(number, read_development, "\n".join(rows))

    def test_signs_more_or_fewer(self):
        rows = self.rows()
        for number, row in enumerate(rows, 1):
            for place in range(len(row) + 1):
                for sign in (" ", "\t", "(", ")", "-", "'", "A", "~", ":"):
                    self.assert_row_refused(number, row[:place] + sign + row[place:])
                text = "\n".join(rows[:number - 1] + [row[:place] + row[place + 1:]] + rows[number:])
                self.assert_written_or_refused(text)

    def assert_written_or_refused(self, text):
        """Whatever is read is written as that very text."""
        try:
            found = read_development(text)
        except BadText:
            return
        self.assertIs(is_development(found), True)
        self.assertEqual(development_text(found), text)

    def test_texts_by_chance(self):
        chance = random.Random(1)
        for text in (LAMP_TEXT, GOOD_TEXT, development_text(JOBS)):
            rows = self.rows(text)
            for _ in range(300):
                changed_rows = list(rows)
                at, other = chance.randrange(len(rows)), chance.randrange(len(rows))
                what = chance.randrange(4)
                if what == 0:
                    changed_rows[at], changed_rows[other] = changed_rows[other], changed_rows[at]
                elif what == 1:
                    del changed_rows[at]
                elif what == 2:
                    changed_rows.insert(at, rows[other])
                else:
                    words, others = rows[at].split(" "), rows[other].split(" ")
                    words[chance.randrange(len(words))] = chance.choice(others)
                    changed_rows[at] = " ".join(words)
                self.assert_written_or_refused("\n".join(changed_rows))

    def test_empty_lines(self):
        rows = self.rows()
        for number in range(1, len(rows) + 2):
            text = "\n".join(rows[:number - 1] + [""] + rows[number - 1:])
            # Where one is, or where one may be, the next line is at fault.
            after = 1 if rows[number - 2:number - 1] != [""] and number not in (1, len(rows) + 1) else 0
            self.assert_refused(number + after, read_development, text)
        for text in ["", "\n", "\n\n", "\n" + LAMP_TEXT]:
            self.assert_refused(1, read_development, text)
        self.assert_refused(len(rows) + 1, read_development, GOOD_TEXT + "\n")
        self.assert_refused(len(rows) + 2, read_development, GOOD_TEXT + "\n\n")
        self.assert_refused(2, read_development, "set jobs: a\n")
        self.assert_refused(len(rows) + 1, read_development, GOOD_TEXT + "\n ")

    def test_missing_empty_lines(self):
        self.assert_refused(7, read_development, LAMP_TEXT.replace("\n\n", "\n"))
        self.assert_refused(2, read_development, GOOD_TEXT.replace("\n\n", "\n"))
        self.assert_refused(27, read_development, GOOD_TEXT.replace("\n\nmodel low", "\nmodel low"))

    def test_what_may_not_stand_there(self):
        for row, number in [("set tools: t", 3), ("set tools: t", 4), ("set tools: t", 26), ("model m", 2),
                            ("model m", 4),
                            ("model m", 26), ("start", 17), ("start", 26), ("var w: truth", 18), ("var w: truth", 10),
                            ("var w: num 3", 26), ("keeps w: yes", 27), ("keeps w: yes", 14), ("deed d", 2),
                            ("deed d", 3)]:
            rows = self.rows()
            rows.insert(number - 1, row)
            with self.subTest(row=row, number=number):
                self.assert_refused(number, read_development, "\n".join(rows))
        # Here it may, but what is behind it may not.
        for row, number, line in [("deed d", 9, 10), ("variant: 3", 26, 27), ("start", 9, 10), ("variant: 3", 11, 12)]:
            rows = self.rows()
            rows.insert(number - 1, row)
            with self.subTest(row=row, number=number):
                self.assert_refused(line, read_development, "\n".join(rows))

    def test_the_order_of_inner_lines(self):
        inner = {"param p: truth": 0, "when yes": 1, "v := 1": 2, "v from w": 2, "help h: 1": 3}
        for first, one in inner.items():
            for second, other in inner.items():
                text = f"model m\nstart\ndeed d\n  {first}\n  {second}"
                if one <= other:
                    self.assertEqual(model_text(read_model((), text)), text)
                else:
                    self.assert_refused(5, read_model, (), text)
                text = f"model m\nstart\n  {first}\n  {second}"
                if one < 2:
                    self.assert_refused(3, read_model, (), text)
                elif one <= other:
                    self.assertEqual(model_text(read_model((), text)), text)
                else:
                    self.assert_refused(4, read_model, (), text)
        for row in ["  when yes", "  v := 1", "  help h: 1", "  param p: truth"]:
            self.assert_refused(2, read_model, (), f"model m\n{row}\nstart")
            self.assert_refused(3, read_model, (), f"model m\nvar v: num 3\n{row}\nstart")
            self.assert_refused(3, read_model, (), f"model m\nkeeps k: yes\n{row}\nstart")
            self.assert_refused(5, read_model, (), f"model m\nstart\ndeed d\nvariant: 3\n{row}")

    def test_the_order_of_outer_lines(self):
        outer = {"var v: num 3": 1, "keeps k: yes": 2, "start": 3, "deed d": 4, "variant: 3": 5}
        for first, one in outer.items():
            for second, other in outer.items():
                text = f"model m\n{first}\n{second}"
                if one > other or (one == other and one in (3, 5)):
                    self.assert_refused(3, read_model, (), text)
                elif 3 in (one, other):
                    self.assertEqual(model_text(read_model((), text)), text)
                else:
                    # It may stand there, but the start is missing.
                    more = 0 if other == 5 else 1
                    self.assert_refused(3 + more, read_model, (), text + f"\n{second}" * more)
        for first in ["set jobs: a", "", "var v: num 3", "start", "deed d", "  v := 1", "Model m", "model",
                      "model m n"]:
            self.assert_refused(1, read_model, (), f"{first}\nmodel m\nstart")
        self.assert_refused(2, read_model, (), "model m\nmodel m\nstart")
        self.assert_refused(2, read_model, (), "model m\nset jobs: a\nstart")
        self.assert_refused(3, read_model, (), "model m\nstart\n")
        self.assert_refused(2, read_model, (), "model m\n\nstart")

    def test_two_starts_and_two_variants(self):
        self.assert_refused(3, read_model, (), "model m\nstart\nstart")
        self.assert_refused(5, read_model, (), "model m\nstart\n  v := 1\ndeed d\nstart")
        self.assert_refused(4, read_model, (), "model m\nstart\nvariant: 1\nvariant: 1")

    def test_sets(self):
        body = "\n\n" + LAMP_TEXT
        many = len(LAMP_TEXT.split("\n"))
        for row in ["set jobs:", "set jobs: ", "set jobs", "set", "set : a", "set jobs : a", "set jobs:a",
                    "set jobs:  a",
                    "set jobs: a ", "set jobs: a  b", "set Jobs: a", "set jobs: A", "set jobs: yes", "set jobs: a, b",
                    "set yes: a", "set jobs: 1", " set jobs: a", "sets jobs: a", "set jobs spots: a", "set jobs: a'",
                    "set jobs: abcdefghi"]:
            self.assert_refused(1, read_development, row + body)
            self.assert_refused(2, read_development, "set t: u\n" + row + body)
        for rows in [["set jobs: a b c d e"], ["set jobs: a a"], ["set jobs: jobs"], ["set jobs: a", "set jobs: b"],
                     ["set jobs: a", "set spots: a"], ["set a: b", "set c: d", "set e: f", "set g: h"], ["set s: on"],
                     ["set on: a"]]:
            # Each line by itself is so.
            self.assert_refused(many + 1 + len(rows), read_development, "\n".join(rows) + body)
        text = "set jobs: a b c d\nset spots: e\nset t: u" + body
        self.assertEqual(read_development(text), ((("jobs", ("a", "b", "c", "d")), ("spots", ("e",)), ("t", ("u",))),
                                                  LAMP[1]))
        self.assert_refused(1, read_development, "set jobs: a")
        self.assert_refused(2, read_development, "set jobs: a\nset spots: b")

    def test_written_so_but_no_development(self):
        rows = self.rows()
        for number, row in [(5, "var s: truth"), (9, "keeps small: k"), (12, "  k := yes"), (12, "  z := 0"),
                            (18, "  param p: truth"), (19, "  when p"), (26, "deed act"), (28, "model top"),
                            (34, "keeps glue: s"), (42, "  help s: 1"), (42, "  help z: a"), (43, "deed go does away"),
                            (43, "deed start"), (56, "variant: f"), (31, "var x: num 3"), (4, "var s: num 3")]:
            changed_rows = rows[:number - 1] + [row] + rows[number:]
            self.assert_refused(len(rows), read_development, "\n".join(changed_rows))
        # The first line that isn't written so is told ahead of that.
        both = rows[:11] + ["  z := 0"] + rows[12:19] + ["  when"] + rows[20:]
        self.assert_refused(20, read_development, "\n".join(both))

    def test_elements_for_variables_and_the_other_way(self):
        self.assert_refused(56, read_development, GOOD_TEXT.replace("help s: a", "help s: c"))
        self.assert_refused(56, read_development, GOOD_TEXT.replace("(most k 4)", "(most a 4)"))
        self.assert_refused(len(GOOD_TEXT.split("\n")), read_development,
                            GOOD_TEXT.replace("set jobs: a b", "set jobs: c d"))
        self.assert_refused(5, read_development, GOOD_TEXT.replace("set jobs: a b", "set tools: a b"))

    def test_figures(self):
        for text, line in [("  k := 00", 12), ("  k := 01", 12), ("  k := " + "9" * 4000, 12), ("  k := 100", 12),
                           ("  k := " + "0" * 5000, 12), ("  k := -1", 12), ("var k: num 05", 4), ("var k: num 16", 4)]:
            self.assert_row_refused(line, text)

    def test_no_text(self):
        for thing in odd_things() + [1, True, ("model m",), ["model m"], b"model m"]:
            if not isinstance(thing, str):
                self.assert_refused(None, read_development, thing)
                self.assert_refused(None, read_model, (), thing)
                self.assert_refused(None, read_code, thing)
            else:
                self.assert_refused(1, read_development, thing)
                self.assert_refused(1, read_model, (), thing)
                self.assert_refused(1, read_code, thing)

    def test_by_the_names_of_their_arguments(self):
        self.assertEqual(expression_text(expression=YES), "yes")
        self.assertEqual(read_expression(text="yes", carriers=()), YES)
        self.assertEqual(model_text(model=LAMP[1][0]), model_text(LAMP[1][0]))
        self.assertEqual(read_model(text="model m\nstart", carriers=()), ("m", (), (), ((), ()), (), None))
        self.assertEqual(read_development(text=development_text(development=LAMP)), LAMP)
        self.assertEqual(read_code(text=code_text(code=(("stop",),))), (("stop",),))

    def test_what_was_handed_in_is_as_it_was(self):
        ahead = copy.deepcopy(JOBS)
        development_text(JOBS)
        model_text(JOBS[1][0])
        self.assertEqual(JOBS, ahead)


ORDERS = {
    "set 0 0": ("set", 0, 0), "set 999 -5": ("set", 999, -5), "set 1 " + "9" * 4000: ("set", 1, 10 ** 4000 - 1),
    "set 1 -" + "9" * 4000: ("set", 1, 1 - 10 ** 4000), "copy 1 2": ("copy", 1, 2), "add 1 2 3": ("add", 1, 2, 3),
    "sub 1 2 3": ("sub", 1, 2, 3), "mul 1 2 3": ("mul", 1, 2, 3), "less 1 2 3": ("less", 1, 2, 3),
    "same 1 2 3": ("same", 1, 2, 3), "jump 0": ("jump", 0), "none 999 0": ("none", 999, 0), "mark 0": ("mark", 0),
    "mark " + "1" * 4000: ("mark", int("1" * 4000)), "stop": ("stop",),
}


class CodeTextTest(Refusing):
    def test_each_order(self):
        for text, order in ORDERS.items():
            self.assertEqual(code_text((order,)), text)
            self.assertEqual(read_code(text), (order,))
            self.assertEqual(read_code(f"stop\n{text}\nstop"), (("stop",), order, ("stop",)))
        self.assertEqual(read_code("\n".join(ORDERS)), tuple(ORDERS.values()))
        self.assertEqual(code_text(tuple(ORDERS.values())), "\n".join(ORDERS))

    def test_codes_of_models(self):
        for development in (LAMP, JOBS):
            code = made_code(development)
            self.assertEqual(read_code(code_text(code)), code)

    def test_a_line_that_is_none(self):
        for text in ["", " ", "set", "set 0", "set 0 0 0", "set 1000 0", "set -1 0", "set -0 0", "set 0 -0", "set 0 00",
                     "set 0 01", "set 0 -01", "set 0 +1", "set 0 --1", "set 0 -", "set 0 x", "set 0  0", "set 0 0 ",
                     " set 0 0", "set\t0 0", "Set 0 0", "set 00 0", "set 0 1.0", "copy 0", "copy 0 1000", "copy -1 0",
                     "add 1 2", "add 1 2 3 4", "add 1 2 1000", "less 1 -2 3", "same 1 02 3", "jump", "jump -1",
                     "jump 0 0",
                     "jump 01", "none 0", "none 0 -1", "none 1000 0", "mark", "mark -1", "mark 01", "mark 0 0",
                     "stop 0",
                     "stop ", "halt", "0", "set 0 " + "9" * 4001, "set 0 -" + "9" * 4001, "mark " + "9" * 4001,
                     "set 0 " + "9" * 20000, "jump " + "9" * 4001, "set 1 0x5", "yes"]:
            self.assert_refused(1, read_code, text)
            self.assert_refused(2, read_code, f"stop\n{text}")
            self.assert_refused(2, read_code, f"stop\n{text}\nnone of these")
            self.assert_refused(3, read_code, f"stop\njump 9\n{text}")

    def test_places(self):
        self.assertEqual(read_code("jump 1\nstop"), (("jump", 1), ("stop",)))
        for text in ["jump 1", "jump 2\nstop", "stop\nnone 5 2", "none 0 5000\nstop\nstop",
                     "jump " + "9" * 4000 + "\nstop"]:
            # By itself it may be one of a CODE.
            self.assert_refused(len(text.split("\n")), read_code, text)

    def test_how_many(self):
        self.assertEqual(read_code("\n".join(["stop"] * 5000)), (("stop",),) * 5000)
        self.assert_refused(5001, read_code, "\n".join(["stop"] * 5001))
        self.assert_refused(5002, read_code, "\n".join(["stop"] * 5002))
        self.assert_refused(4, read_code, "\n".join(["stop"] * 3 + ["halt"] + ["stop"] * 5000))

    def test_empty_lines(self):
        self.assert_refused(1, read_code, "")
        self.assert_refused(2, read_code, "stop\n")
        self.assert_refused(1, read_code, "\nstop")


if __name__ == "__main__":
    unittest.main()
