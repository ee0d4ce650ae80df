"""DEVELOPMENTS to try things by: but for BROKEN all their GOALS are TRUE."""

from words import NO, YES, elem, is_at, joined, num, var

# Without SETS: two LEVELS, a new DEED with a VARIANT.
LAMP_MODEL = (
    "lamp", (("on", ("truth",)),), (), ((("be", "on", NO),), ()),
    (("flip", None, (), (), (("be", "on", ("not", var("on"))),), ()),), None,
)
DIAL_MODEL = (
    "dial", (("turns", ("num", 3)),),
    (("glue", ("same", var("on"), ("less", num(1), var("turns")))),),
    ((("be", "turns", num(0)),), ()),
    (
        ("up", None, (), (("or", ("same", var("turns"), num(0)), ("same", var("turns"), num(2))),),
         (("be", "turns", ("add", var("turns"), num(1))),), ()),
        ("snap", "flip", (), (("same", var("turns"), num(1)),), (("be", "turns", num(2)),), ()),
        ("reset", "flip", (), (("same", var("turns"), num(3)),), (("be", "turns", num(0)),), ()),
    ),
    ("sub", num(3), var("turns")),
)
LAMP = ((), (LAMP_MODEL, DIAL_MODEL))

# Four LEVELS, the lowest of them MADE.
JOB_SETS = (("jobs", ("a", "b", "c")), ("spots", ("left", "right")))
ONE_JOB = ("one", "jobs")
ALL_JOBS = ("every", "jobs")
NO_JOBS = ("none", "jobs")

BOARD_MODEL = (
    "board", (("done", ("some", "jobs")), ("last", ONE_JOB)),
    (("few", ("most", ("count", var("done")), num(3))),),
    ((("be", "done", NO_JOBS), ("from", "last", ALL_JOBS)), ()),
    (
        ("finish", None, (("j", ONE_JOB),), (("not", ("in", var("j"), var("done"))),),
         (("be", "done", ("either", var("done"), ("just", var("j")))), ("be", "last", var("j"))), ()),
        ("again", None, (), (("same", ("count", var("done")), num(3)),),
         (("be", "done", NO_JOBS), ("from", "last", ALL_JOBS)), ()),
    ),
    None,
)
WORK_LEFT = ("sub", num(6), joined("add", *[("at", var("work"), elem(job)) for job in "abc"]))
DESK_MODEL = (
    "desk", (("work", ("map", "jobs", ("num", 2))), ("last", ONE_JOB)),
    (("glue", ("each", "x", ONE_JOB, ("same", ("in", var("x"), var("done")), is_at(var("work"), var("x"), num(2))))),),
    ((("be", "work", ("all", "jobs", num(0))), ("from", "last", ALL_JOBS)), ()),
    (
        ("do", None, (("j", ONE_JOB),), (("less", ("at", var("work"), var("j")), num(1)),),
         (("be", "work", ("put", var("work"), var("j"), ("add", ("at", var("work"), var("j")), num(1)))),), ()),
        ("ship", "finish", (("j", ONE_JOB),), (is_at(var("work"), var("j"), num(1)),),
         (("be", "work", ("put", var("work"), var("j"), num(2))), ("be", "last", var("j"))), ()),
        ("again", "again", (), (("each", "x", ONE_JOB, is_at(var("work"), var("x"), num(2))),),
         (("be", "work", ("all", "jobs", num(0))), ("from", "last", ALL_JOBS)), ()),
    ),
    WORK_LEFT,
)
HELD_NOW = ("and", var("busy"), ("same", var("x"), var("held")))
BENCH_MODEL = (
    "bench", (("todo", ("some", "jobs")), ("held", ONE_JOB), ("busy", ("truth",)), ("last", ONE_JOB)),
    (
        ("glue", ("each", "x", ONE_JOB, is_at(var("work"), var("x"), (
            "if", ("in", var("x"), var("todo")), num(0), ("if", HELD_NOW, num(1), num(2)))))),
        ("apart", ("then", var("busy"), ("not", ("in", var("held"), var("todo"))))),
    ),
    ((("be", "todo", ALL_JOBS), ("be", "held", elem("a")), ("be", "busy", NO), ("from", "last", ALL_JOBS)), ()),
    (
        ("take", "do", (("j", ONE_JOB),), (("in", var("j"), var("todo")), ("not", var("busy"))),
         (("be", "todo", ("but", var("todo"), ("just", var("j")))), ("be", "held", var("j")), ("be", "busy", YES)), ()),
        ("put", "ship", (), (var("busy"),), (("be", "busy", NO), ("be", "last", var("held"))), (("j", var("held")),)),
        ("again", "again", (), (("not", var("busy")), ("same", var("todo"), NO_JOBS)),
         (("be", "todo", ALL_JOBS), ("from", "last", ALL_JOBS)), ()),
    ),
    None,
)


def _take(number, job):
    return ("take" + job, "take", (), (("not", var("busy")), ("same", var("next"), num(number))),
            (("be", "next", num(number + 1)), ("be", "held", elem(job)), ("be", "busy", YES)), (("j", elem(job)),))


LEFT_BY_NEXT = ("if", ("same", var("next"), num(0)), ALL_JOBS, (
    "if", ("same", var("next"), num(1)), ("but", ALL_JOBS, ("just", elem("a"))), (
        "if", ("same", var("next"), num(2)), ("just", elem("c")), NO_JOBS)))
LIST_MODEL = (
    "list", (("next", ("num", 3)), ("held", ONE_JOB), ("busy", ("truth",)), ("last", ONE_JOB)),
    (("glue", ("same", var("todo"), LEFT_BY_NEXT)),),
    ((("be", "next", num(0)), ("be", "held", elem("a")), ("be", "busy", NO), ("be", "last", elem("b"))), ()),
    (
        _take(0, "a"), _take(1, "b"), _take(2, "c"),
        ("put", "put", (), (var("busy"),), (("be", "busy", NO), ("be", "last", var("held"))), ()),
        ("again", "again", (), (("not", var("busy")), ("same", var("next"), num(3))),
         (("be", "next", num(0)), ("be", "last", elem("b"))), ()),
    ),
    None,
)
JOBS = (JOB_SETS, (BOARD_MODEL, DESK_MODEL, BENCH_MODEL, LIST_MODEL))

# HELPS for what from gives ABOVE.
SPOT_SETS = (("spots", ("left", "right")),)
PLACE_MODEL = (
    "place", (("spot", ("one", "spots")),), (), ((("from", "spot", ("every", "spots")),), ()),
    (("move", None, (), (), (("from", "spot", ("every", "spots")),), ()),), None,
)
FLAG_MODEL = (
    "flag", (("flag", ("truth",)),), (("glue", ("same", ("same", var("spot"), elem("left")), var("flag"))),),
    ((("be", "flag", YES),), (("spot", elem("left")),)),
    (("swap", "move", (), (), (("be", "flag", ("not", var("flag"))),),
      (("spot", ("if", var("flag"), elem("right"), elem("left"))),)),),
    None,
)
SPOTS = (SPOT_SETS, (PLACE_MODEL, FLAG_MODEL))

# HELPS for PARAMS that are numbers.
TANK_MODEL = (
    "tank", (("fill", ("num", 9)),), (("even", ("most", var("fill"), num(9))),), ((("be", "fill", num(0)),), ()),
    (
        ("pour", None, (("n", ("num", 3)), ("fast", ("truth",))),
         (("most", ("add", var("fill"), var("n")), num(9)), ("or", var("fast"), ("less", var("n"), num(3)))),
         (("be", "fill", ("add", var("fill"), var("n"))),), ()),
        ("empty", None, (), (), (("be", "fill", num(0)),), ()),
    ),
    None,
)
DRIP_MODEL = (
    "drip", (("fill", ("num", 9)), ("told", ("truth",))), (("kept",
                                                            ("or", var("told"), ("less", var("fill"), num(9)))),),
    ((("be", "fill", num(0)), ("be", "told", NO)), ()),
    (
        ("drop", "pour", (), (("less", var("fill"), num(8)),), (("be", "fill", ("add", var("fill"), num(1))),),
         (("n", num(1)), ("fast", NO))),
        ("last", "pour", (("fast", ("truth",)),), (("same", var("fill"), num(8)), var("fast")),
         (("be", "fill", num(9)), ("be", "told", YES)), (("n", ("sub", num(9), var("fill"))),)),
        ("tip", "empty", (), (("less", num(8), var("fill")),), (("be", "fill", num(0)), ("be", "told", NO)), ()),
    ),
    None,
)
TANK = ((), (TANK_MODEL, DRIP_MODEL))

DEVELOPMENTS = {"lamp": LAMP, "jobs": JOBS, "spots": SPOTS, "tank": TANK}


def changed(thing, path, new):
    """The same with the new one at that path: a place in the tuple, a place in what stands there, .."""
    if len(path) == 0:
        return new
    place = path[0]
    return (*thing[:place], changed(thing[place], path[1:], new), *thing[place + 1:])
