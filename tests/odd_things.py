"""Things of any kind, to be refused or told to be none."""


class SameAsAll:
    """It says that it's the same as whatever it is compared with."""

    def __eq__(self, other):
        return True

    def __hash__(self):
        return 0


class NotCompared:
    """It can't be compared, and not be hashed."""

    __hash__ = None

    def __eq__(self, other):
        raise AssertionError("it was compared")


def deep_tuple(deep):
    thing = ()
    for _ in range(deep - 1):
        thing = (thing,)
    return thing


def deep_list(deep):
    thing = []
    for _ in range(deep - 1):
        thing = [thing]
    return thing


def deep_dict(deep):
    thing = {}
    for _ in range(deep - 1):
        thing = {"a": thing}
    return thing


def odd_things():
    """A list, made anew each time, of things that are neither NAME, CARRIERS nor TYPE, nor a VALUE of any."""
    return [
        None, -1, 16, 10 ** 3999, -(10 ** 3999), b"", b"a", b"jobs", "", "A", " ", "a b", "yes", "no", "'", "a'",
        [], [()], ["a"], ["num", 3], [("jobs", ("a",))], {}, {"a": 1}, {"jobs": ("a", "b")}, {"truth"},
        deep_tuple(150), deep_list(150), deep_dict(150), tuple([0] * 19999), [0] * 19999, "a" * 20000,
        {number: () for number in range(9000)}, (None,), ((),), ([],), ({},), (b"truth",), ([], "a"), ({}, 3),
        ("num",), ("truth", ()), (("truth",),), ("one", ["jobs"]), ("some", {}), ("map", "jobs"), object(), len, str,
        frozenset(["a"]), range(3), SameAsAll(), NotCompared(), (SameAsAll(),), (NotCompared(),), (SameAsAll(), 3),
        (NotCompared(), 3), ("one", SameAsAll()), ("some", NotCompared()), ("num", SameAsAll()),
        ("map", SameAsAll(), ("truth",)), ("map", "jobs", SameAsAll()), ((SameAsAll(), ("a",)),),
        (("jobs", (NotCompared(),)),), (("jobs", SameAsAll()),), (SameAsAll(), SameAsAll(), SameAsAll()),
    ]
