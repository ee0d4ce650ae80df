"""PART WORTHS word by word as [5] tells them, written apart from the package; and EXPRESSIONS and STATES at random."""

from itertools import product

from stairwright.expressions import sort_of_type
from stairwright.types import cells_of, elements_of, values_of


def all_values(carriers, kind):
    """A list of all VALUES of a TYPE."""
    if kind[0] == "some":
        members = elements_of(carriers, kind[1])
        rows = product((False, True), repeat=len(members))
        return [tuple([member for member, there in zip(members, row) if there]) for row in rows]
    if kind[0] == "map":
        return list(product(values_of(carriers, kind[2]), repeat=len(elements_of(carriers, kind[1]))))
    return list(values_of(carriers, kind))


def all_states(carriers, names):
    """A list of all STATES of these (NAME, TYPE)."""
    rows = product(*[all_values(carriers, kind) for _, kind in names])
    return [{name: value for (name, _), value in zip(names, row)} for row in rows]


def known_at(carriers, context, state):
    """KNOWN of all CELLS at a STATE."""
    known = {}
    for name, kind in context.items():
        for cell, _ in cells_of(carriers, name, kind):
            if kind[0] == "some":
                known[cell] = cell[1] in state[name]
            elif kind[0] == "map":
                known[cell] = state[name][elements_of(carriers, kind[1]).index(cell[1])]
            else:
                known[cell] = state[name]
    return known


def _not(part):
    return None if part is None else not part


def _and(parts):
    if any(part is False for part in parts):
        return False
    return True if all(part is True for part in parts) else None


def _or(parts):
    if any(part is True for part in parts):
        return True
    return False if all(part is False for part in parts) else None


def _alike(parts):
    return parts[0] if None not in parts and all(part == parts[0] for part in parts) else None


NUMBERS = {
    "add": lambda one, other: one + other, "sub": lambda one, other: one - other, "mul": lambda one, other: one * other,
    "less": lambda one, other: one < other, "most": lambda one, other: one <= other,
}
TRUTHS = {
    "and": lambda one, other: _and([one, other]), "or": lambda one, other: _or([one, other]),
    "then": lambda one, other: _or([_not(one), other]),
}
SOMES = {
    "both": lambda one, other: _and([one, other]), "either": lambda one, other: _or([one, other]),
    "but": lambda one, other: _and([one, _not(other)]),
}


class Plain:
    """PART WORTHS by one KNOWN."""

    def __init__(self, carriers, context, known):
        self.carriers, self.context, self.known = carriers, context, known
        self.numbers = {member: number for _, members in carriers for number, member in enumerate(members)}

    def told(self, expression, bound):
        word = expression[0]
        if word in ("num", "elem"):
            return expression[1]
        if word in ("yes", "no"):
            return word == "yes"
        if word in ("none", "every"):
            return (word == "every",) * len(elements_of(self.carriers, expression[1]))
        if word == "var":
            return bound[expression[1]] if expression[1] in bound else self.of_cells(expression[1])
        if word in ("each", "any"):
            values = values_of(self.carriers, expression[2])
            parts = [self.told(expression[3], {**bound, expression[1]: value}) for value in values]
            return _and(parts) if word == "each" else _or(parts)
        if word == "all":
            return (self.told(expression[2], bound),) * len(elements_of(self.carriers, expression[1]))
        if word == "just":
            return self.of_just(self.told(expression[1], bound), self.set_of(expression[1], bound))
        return self.of_parts(word, [self.told(part, bound) for part in expression[1:]])

    def of_cells(self, name):
        kind = self.context[name]
        parts = tuple([self.known.get(cell) for cell, _ in cells_of(self.carriers, name, kind)])
        return parts if kind[0] in ("some", "map") else parts[0]

    def of_just(self, member, name):
        return tuple([None if member is None else member == other for other in elements_of(self.carriers, name)])

    def set_of(self, expression, bound):
        """The SET of an EXPRESSION of one, or of a map of ones."""
        word = expression[0]
        if word == "elem" or word == "var" and expression[1] in bound:
            member = expression[1] if word == "elem" else bound[expression[1]]
            return [name for name, members in self.carriers if member in members][0]
        if word == "var":
            kind = self.context[expression[1]]
            return kind[2][1] if kind[0] == "map" else kind[1]
        return self.set_of(expression[2 if word in ("if", "all") else 1], bound)

    def of_parts(self, word, parts):
        if word in NUMBERS:
            return None if None in parts else NUMBERS[word](*parts)
        if word in TRUTHS:
            return TRUTHS[word](*parts)
        if word in SOMES:
            return tuple([SOMES[word](one, other) for one, other in zip(*parts)])
        if word == "not":
            return _not(parts[0])
        if word == "same":
            return self.of_same(*parts)
        if word == "if":
            return self.of_if(*parts)
        if word == "in":
            return _alike(parts[1]) if parts[0] is None else parts[1][self.numbers[parts[0]]]
        if word == "at":
            return _alike(parts[0]) if parts[1] is None else parts[0][self.numbers[parts[1]]]
        if word == "within":
            return _and([_or([_not(one), other]) for one, other in zip(*parts)])
        if word == "count":
            return None if None in parts[0] else sum(parts[0])
        assert word == "put"
        return self.of_put(*parts)

    def of_same(self, one, other):
        if not isinstance(one, tuple):
            return None if one is None or other is None else one == other
        pairs = list(zip(one, other))
        if any(None not in pair and pair[0] != pair[1] for pair in pairs):
            return False
        return None if any(None in pair for pair in pairs) else True

    def of_if(self, truth, one, other):
        if truth is not None:
            return one if truth else other
        if isinstance(one, tuple):
            return tuple([_alike(pair) for pair in zip(one, other)])
        return _alike([one, other])

    def of_put(self, table, member, new):
        if member is None:
            return tuple([_alike([old, new]) for old in table])
        return tuple([new if place == self.numbers[member] else old for place, old in enumerate(table)])


def plain_part_worth(carriers, context, expression, known):
    return Plain(carriers, context, known).told(expression, {})


class Maker:
    """Makes EXPRESSIONS of a CONTEXT by a source of chance."""

    def __init__(self, chance, carriers, context):
        self.chance, self.carriers, self.context = chance, carriers, context
        self.sets = [name for name, _ in carriers]

    def small_type(self):
        return self.chance.choice([("num", self.chance.choice([1, 2, 3])), ("truth",), ("one", self.a_set())])

    def a_type(self):
        small = self.small_type()
        return self.chance.choice([small, small, ("some", self.a_set()), ("map", self.a_set(), small)])

    def a_set(self):
        return self.chance.choice(self.sets)

    def small_sort(self):
        return self.chance.choice(["num", "truth", ("one", self.a_set())])

    def a_sort(self):
        small = self.small_sort()
        return self.chance.choice([small, small, ("some", self.a_set()), ("map", self.a_set(), small)])

    def made(self, sort, deep, bound):
        """An EXPRESSION of that SORT, not deeper than so, within eaches and anys of these NAMES."""
        there = {**self.context, **bound}
        names = [name for name in there if sort_of_type(there[name]) == sort]
        if len(names) > 0 and self.chance.random() < (0.3 if deep > 1 else 0.7):
            return ("var", self.chance.choice(names))
        if deep <= 1:
            return self.bare(sort)
        if self.chance.random() < 0.12:
            return ("if", *[self.made(part, deep - 1, bound) for part in ("truth", sort, sort)])
        word = sort if isinstance(sort, str) else sort[0]
        if word in ("num", "truth", "one") and self.chance.random() < 0.15:
            name = self.a_set()
            return ("at", self.made(("map", name, sort), deep - 1, bound), self.made(("one", name), deep - 1, bound))
        return getattr(self, "made_" + word)(sort, deep - 1, bound)

    def bare(self, sort):
        if sort == "num":
            return ("num", self.chance.choice([0, 1, 2, 3, 99]))
        if sort == "truth":
            return (self.chance.choice(["yes", "no"]),)
        if sort[0] == "one":
            return ("elem", self.chance.choice(elements_of(self.carriers, sort[1])))
        if sort[0] == "some":
            return (self.chance.choice(["none", "every"]), sort[1])
        return ("all", sort[1], self.bare(sort[2]))

    def made_num(self, sort, deep, bound):
        word = self.chance.choice(["add", "sub", "mul", "count"])
        parts = [("some", self.a_set())] if word == "count" else ["num", "num"]
        return (word, *[self.made(part, deep, bound) for part in parts])

    def made_truth(self, sort, deep, bound):
        word = self.chance.choice(["less", "most", "same", "not", "and", "or", "then", "in", "within", "each", "any"])
        if word in ("each", "any"):
            name, kind = self.chance.choice(["e", "f"]), self.small_type()
            return (word, name, kind, self.made("truth", deep, {**bound, name: kind}))
        name, same = self.a_set(), self.a_sort()
        parts = {"less": ["num"] * 2, "most": ["num"] * 2, "same": [same] * 2, "not": ["truth"],
                 "in": [("one", name), ("some", name)], "within": [("some", name)] * 2}.get(word, ["truth"] * 2)
        return (word, *[self.made(part, deep, bound) for part in parts])

    def made_one(self, sort, deep, bound):
        return self.bare(sort)

    def made_some(self, sort, deep, bound):
        word = self.chance.choice(["both", "either", "but", "just"])
        parts = [("one", sort[1])] if word == "just" else [sort, sort]
        return (word, *[self.made(part, deep, bound) for part in parts])

    def made_map(self, sort, deep, bound):
        if self.chance.random() < 0.25:
            return ("all", sort[1], self.made(sort[2], deep, bound))
        return ("put", *[self.made(part, deep, bound) for part in (sort, ("one", sort[1]), sort[2])])
