"""Expressions: their words, parts and sorts, and the names in them."""

from stairwright.errors import BadExpression
from stairwright.limits import MOST_DEEP, MOST_WRITTEN, MOST_GOAL_DEEP, MOST_GOAL_PARTS, MOST_PARTS
from stairwright.types import carrier_names, has_set, is_name, is_small, is_whole, word_of

# Words with no EXPRESSION in them, by how many things they have in all.
BARE = {"num": 2, "yes": 1, "no": 1, "elem": 2, "none": 2, "every": 2, "var": 2}
BINDING = ("each", "any")

# Words by the SORTS of their parts and, at the end, their own.
FIXED = {
    "add": ("num", "num", "num"),
    "sub": ("num", "num", "num"),
    "mul": ("num", "num", "num"),
    "less": ("num", "num", "truth"),
    "most": ("num", "num", "truth"),
    "not": ("truth", "truth"),
    "and": ("truth", "truth", "truth"),
    "or": ("truth", "truth", "truth"),
    "then": ("truth", "truth", "truth"),
}


def _set_of(sort, word):
    """The SET of a SORT of that word, None of another SORT."""
    if isinstance(sort, tuple) and sort[0] == word:
        return sort[1]
    return None


def _sort_of_same(sorts):
    return "truth" if sorts[0] == sorts[1] else None


def _sort_of_if(sorts):
    return sorts[1] if sorts[0] == "truth" and sorts[1] == sorts[2] else None


def _sort_of_in(sorts):
    name = _set_of(sorts[0], "one")
    return "truth" if name is not None and sorts[1] == ("some", name) else None


def _sort_of_within(sorts):
    return "truth" if _set_of(sorts[0], "some") is not None and sorts[0] == sorts[1] else None


def _sort_of_joined(sorts):
    return sorts[0] if _set_of(sorts[0], "some") is not None and sorts[0] == sorts[1] else None


def _sort_of_just(sorts):
    name = _set_of(sorts[0], "one")
    return None if name is None else ("some", name)


def _sort_of_count(sorts):
    return None if _set_of(sorts[0], "some") is None else "num"


def _sort_of_at(sorts):
    name = _set_of(sorts[0], "map")
    return sorts[0][2] if name is not None and sorts[1] == ("one", name) else None


def _sort_of_put(sorts):
    return sorts[0] if _sort_of_at(sorts) is not None and _sort_of_at(sorts) == sorts[2] else None


# Words whose SORTS hang on one another, by how many parts they have.
HANGING = {"same": 2, "if": 3, "in": 2, "within": 2, "both": 2, "either": 2, "but": 2, "just": 1, "count": 1, "at": 2,
           "put": 3}

HANGING_SORTS = {
    "same": _sort_of_same,
    "if": _sort_of_if,
    "in": _sort_of_in,
    "within": _sort_of_within,
    "both": _sort_of_joined,
    "either": _sort_of_joined,
    "but": _sort_of_joined,
    "just": _sort_of_just,
    "count": _sort_of_count,
    "at": _sort_of_at,
    "put": _sort_of_put,
}


def sort_of_type(kind):
    """The SORT of what has that TYPE."""
    if kind[0] in ("num", "truth"):
        return kind[0]
    if kind[0] == "map":
        return ("map", kind[1], sort_of_type(kind[2]))
    return kind


def is_goal_name(thing):
    """Whether it's a NAME, or one with a "'" behind."""
    if isinstance(thing, str) and thing.endswith("'"):
        return is_name(thing[:-1])
    return is_name(thing)


class Reading:
    """The going through one thing that may be an EXPRESSION, and how many EXPRESSIONS were met so far."""

    def __init__(self, carriers, context, in_goal):
        self.carriers = carriers
        self.context = context
        self.in_goal = in_goal
        self.most_parts = MOST_GOAL_PARTS if in_goal else MOST_PARTS
        self.most_deep = MOST_GOAL_DEEP if in_goal else MOST_DEEP
        self.many = 0

    def sort_at(self, thing, bound, deep):
        """Its SORT, so deep within others, of which each and any give the NAMES in bound."""
        self.many += 1
        if self.many > self.most_parts or deep > self.most_deep:
            raise BadExpression("an expression of too many parts, or too deep")
        word = word_of(thing)
        if word in BARE:
            sort = self.sort_of_bare(word, thing, bound)
        elif word in BINDING:
            sort = self.sort_of_binding(thing, bound, deep)
        elif word == "all":
            sort = self.sort_of_all(thing, bound, deep)
        else:
            sort = self.sort_by_parts(word, thing, bound, deep)
        if sort is None:
            raise BadExpression("no expression by its word, its parts or their sorts")
        return sort

    def sort_of_bare(self, word, thing, bound):
        if len(thing) != BARE[word]:
            return None
        if word in ("yes", "no"):
            return "truth"
        part = thing[1]
        if word == "num":
            return "num" if is_whole(part) and 0 <= part <= MOST_WRITTEN else None
        if not isinstance(part, str):
            return None
        if word == "elem":
            return self.sort_of_element(part)
        if word == "var":
            return self.sort_of_var(part, bound)
        return ("some", part) if has_set(self.carriers, part) else None

    def sort_of_element(self, name):
        for word, members in self.carriers:
            if name in members:
                return ("one", word)
        return None

    def sort_of_var(self, name, bound):
        if name in bound:
            return bound[name]
        return sort_of_type(self.context[name]) if name in self.context else None

    def sort_of_binding(self, thing, bound, deep):
        if len(thing) != 4 or not self.may_bind(thing[1]) or not is_small(self.carriers, thing[2]):
            return None
        inside = {**bound, thing[1]: sort_of_type(thing[2])}
        return "truth" if self.sort_at(thing[3], inside, deep + 1) == "truth" else None

    def may_bind(self, thing):
        fits = is_goal_name(thing) if self.in_goal else is_name(thing)
        return fits and thing not in self.context and thing not in carrier_names(self.carriers)

    def sort_of_all(self, thing, bound, deep):
        if len(thing) != 3 or not has_set(self.carriers, thing[1]):
            return None
        sort = self.sort_at(thing[2], bound, deep + 1)
        fits = sort in ("num", "truth") or _set_of(sort, "one") is not None
        return ("map", thing[1], sort) if fits else None

    def sort_by_parts(self, word, thing, bound, deep):
        fixed = FIXED.get(word)
        many = HANGING.get(word) if fixed is None else len(fixed) - 1
        if many is None or len(thing) != many + 1:
            return None
        sorts = []
        for part in thing[1:]:
            sorts.append(self.sort_at(part, bound, deep + 1))
        if fixed is not None:
            return fixed[-1] if tuple(sorts) == fixed[:-1] else None
        sort_of_word = HANGING_SORTS[word]
        return sort_of_word(sorts)


def sort_of(carriers, context, thing):
    """The SORT of an EXPRESSION of the CONTEXT; BadExpression of anything else."""
    return Reading(carriers, context, False).sort_at(thing, {}, 1)


def sort_inside(carriers, context, bound, thing):
    """The SORT of a good EXPRESSION within each and any by whose NAMES bound has the SMALL TYPES."""
    sorts = {name: sort_of_type(bound[name]) for name in bound}
    return Reading(carriers, context, True).sort_at(thing, sorts, 1)


def is_of(carriers, context, thing, sort):
    """Whether it's an EXPRESSION of the CONTEXT that has the SORT."""
    return _is_read_as(Reading(carriers, context, False), thing, sort)


def is_goal_truth(carriers, context, thing):
    """Whether it's a truth as GOALS may have them: greater, and with "'" behind NAMES."""
    return _is_read_as(Reading(carriers, context, True), thing, "truth")


def _is_read_as(reading, thing, sort):
    try:
        return reading.sort_at(thing, {}, 1) == sort
    except BadExpression:
        return False


def first_part(expression):
    """The place of the first EXPRESSION in it; its length where there is none."""
    word = expression[0]
    if word in BARE:
        return len(expression)
    if word == "all":
        return 2
    return 3 if word in BINDING else 1


def names_in(expression):
    """A list of the NAMES of var in it, each once, in the order of writing."""
    found = {}
    _gather(expression, ("var",), found)
    return list(found)


def bound_in(expression):
    """A list of the NAMES of each and any in it, each once, in the order of writing."""
    found = {}
    _gather(expression, BINDING, found)
    return list(found)


def _gather(expression, words, found):
    if expression[0] in words:
        found[expression[1]] = True
    for part in expression[first_part(expression):]:
        _gather(part, words, found)


def has_free(expression, name):
    """Whether it has a var of that NAME within no each and no any of it."""
    if expression[0] == "var":
        return expression[1] == name
    if expression[0] in BINDING and expression[1] == name:
        return False
    for part in expression[first_part(expression):]:
        if has_free(part, name):
            return True
    return False


def put_in(expression, changes):
    """The EXPRESSION with the EXPRESSIONS of a dict in the places of var of such NAMES."""
    if expression[0] == "var":
        return changes.get(expression[1], expression)
    first = first_part(expression)
    parts = []
    for part in expression[first:]:
        parts.append(put_in(part, changes))
    return expression[:first] + tuple(parts)
