"""A DEVELOPMENT whose GOALS are all TRUE, and others that differ from it in one thing by which a run breaks a GOAL."""

from stairs import changed
from words import NO, YES, elem, num, var

JOB = ("one", "jobs")
ALL_JOBS = ("every", "jobs")
SETS = (("jobs", ("a", "b")),)
OTHER_JOB = ("but", ALL_JOBS, ("just", var("s")))

TOP = (
    "top", (("k", ("num", 5)), ("s", JOB), ("z", ("num", 3)), ("x", ("num", 9)), ("r", JOB)),
    (("small", ("most", var("k"), num(4))), ("like", ("most", var("x"), num(9)))),
    ((("be", "k", num(0)), ("from", "s", ALL_JOBS), ("be", "z", num(0)), ("be", "x", num(2)),
      ("from", "r", ALL_JOBS)), ()),
    (
        ("act", None, (("p", ("num", 3)),),
         (("most", var("p"), num(2)), ("most", ("add", var("k"), var("p")), num(4)),
          ("most", ("add", var("x"), var("p")), num(9))),
         (("be", "k", ("add", var("k"), var("p"))), ("from", "s", OTHER_JOB), ("be", "x", ("add", var("x"), var("p"))),
          ("from", "r", ALL_JOBS)), ()),
        ("idle", None, (), (), (), ()),
    ),
    None,
)
LOW = (
    "low", (("k", ("num", 5)), ("f", ("truth",)), ("z", ("num", 3)), ("c", ("num", 9)), ("r", JOB)),
    (("glue", ("same", var("f"), ("same", var("s"), elem("a")))),
     ("sum", ("same", var("x"), ("add", var("k"), num(2))))),
    ((("be", "k", num(0)), ("be", "f", YES), ("be", "z", num(0)), ("be", "c", num(0)), ("from", "r", ALL_JOBS)),
     (("s", elem("a")),)),
    (
        ("go", "act", (), (("less", var("k"), num(4)),),
         (("be", "k", ("add", var("k"), num(1))), ("be", "f", ("not", var("f"))), ("from", "r", ("just", var("r")))),
         (("p", num(1)), ("s", ("if", var("f"), elem("b"), elem("a"))))),
        ("rest", None, (), (("same", var("k"), num(4)), ("less", var("c"), num(9))),
         (("be", "c", ("add", var("c"), num(1))),), ()),
        ("stay", "idle", (), (("same", var("c"), num(9)),), (), ()),
    ),
    ("sub", num(9), var("c")),
)
GOOD = (SETS, (TOP, LOW))

# Paths in GOOD.
IN_TOP, IN_LOW = (1, 0), (1, 1)
GO, ACT = IN_LOW + (4, 0), IN_TOP + (4, 0)


def fault(*changes):
    found = GOOD
    for path, new in changes:
        found = changed(found, path, new)
    return found


GLUE = (IN_LOW + (2,), ())

# By name: the DEVELOPMENT, and the step and the GOAL at which each of its runs by the first of all that follow breaks.
FAULTS = {
    "picks, too great": (fault((GO + (5, 0, 1), num(4))), 0, (1, "go", "picks", "p")),
    "picks, too small": (fault((GO + (5, 0, 1), ("sub", num(1), num(2)))), 0, (1, "go", "picks", "p")),
    "guard": (fault((GO + (5, 0, 1), num(3))), 0, (1, "go", "guard", 0)),
    "the second guard": (fault((ACT + (3,), (YES, ("most", var("p"), num(0))))), 0, (1, "go", "guard", 1)),
    "does by be": (fault((GO + (4, 0, 2), ("add", var("k"), num(2)))), 0, (1, "go", "does", "k")),
    "does by from": (fault((ACT + (4, 3, 2), ("but", ALL_JOBS, ("just", var("r"))))), 0, (1, "go", "does", "r")),
    "does of none": (fault((GO + (4,), ())), 0, (1, "go", "does", "k")),
    "helps": (fault((GO + (5, 1, 1), elem("a"))), 0, (1, "go", "helps", "s")),
    "helps, at the second": (fault((GO + (5, 1, 1), elem("b"))), 1, (1, "go", "helps", "s")),
    "keeps": (fault((GO + (4,), LOW[4][0][4][:2] + (("be", "z", num(1)),) + LOW[4][0][4][2:])), 0,
              (1, "go", "keeps", "z")),
    "keeps of a new deed": (fault((IN_LOW + (4, 1, 4), (("be", "z", num(1)),))), 4, (1, "rest", "keeps", "z")),
    "stays": (fault((GO + (4, 1, 2), var("f"))), 0, (1, "go", "stays", "glue")),
    "the second one stays": (fault((IN_LOW + (2, 1, 1), ("most", var("x"), num(4)))), 2, (1, "go", "stays", "sum")),
    "stays of a new deed": (fault((IN_LOW + (2, 1, 1), ("less", var("c"), num(3)))), 6, (1, "rest", "stays", "sum")),
    "less, not less": (fault((IN_LOW + (4, 1, 4), ())), 4, (1, "rest", "less", None)),
    "less, below 0": (fault((IN_LOW + (5,), ("sub", num(5), var("c")))), 9, (1, "rest", "less", None)),
    "fits above": (fault((ACT + (4, 2, 2), ("mul", var("x"), num(2))), GLUE), 2, (0, "act", "fits", "x")),
    "stays above": (fault((IN_TOP + (2, 0, 1), ("most", var("k"), num(2)))), 2, (0, "act", "stays", "small")),
    "the second one stays above": (fault((IN_TOP + (2, 1, 1), ("most", var("x"), num(4)))), 2,
                                   (0, "act", "stays", "like")),
    "low ahead of top": (fault((IN_TOP + (2, 0, 1), ("most", var("k"), num(0))), (GO + (4, 1, 2), var("f"))), 0,
                         (1, "go", "stays", "glue")),
    "does of the start by be": (fault((IN_LOW + (3, 0, 0, 2), num(1))), None, (1, "start", "does", "k")),
    "does of the start by from": (fault((IN_TOP + (3, 0, 4, 2), ("none", "jobs"))), None, (1, "start", "does", "r")),
    "helps of the start": (fault((IN_TOP + (3, 0, 1, 2), ("just", elem("b")))), None, (1, "start", "helps", "s")),
    "stays of the start": (fault((IN_LOW + (3, 0, 1, 2), NO)), None, (1, "start", "stays", "glue")),
    "fits of the start above": (fault((IN_TOP + (3, 0, 3, 2), num(10)), GLUE), None, (0, "start", "fits", "x")),
    "stays of the start above": (fault((IN_TOP + (2, 0, 1), ("less", num(0), var("k")))), None,
                                 (0, "start", "stays", "small")),
    "the start low ahead of top": (fault((IN_TOP + (2, 0, 1), ("less", num(0), var("k"))),
                                         (IN_LOW + (3, 0, 1, 2), NO)), None, (1, "start", "stays", "glue")),
    "nothing goes on": (fault((IN_TOP + (2, 1, 1), ("most", var("x"), num(6)))), None, None),
}
