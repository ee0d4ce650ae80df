"""Part worths: an expression is made ready once and then told by what is known, as often as is asked.

What is known is a list here: a place for each CELL of the CONTEXT, None as long as it isn't known, and behind these
places for what the tellers note themselves. A teller is a function of that list: it tells a number, a truth, an
ELEMENT or None. An EXPRESSION of some or map has a list of tellers, one for each ELEMENT: so only those CELLS are
looked at that matter.
"""

from stairwright.expressions import BINDING, has_free, sort_inside
from stairwright.types import cells_of, elements_of, values_of

# What is told is never an empty text.
NOT_ASKED = ""
CHEAP = ("num", "yes", "no", "elem", "var")


def _fixed(thing):
    return lambda known: thing


def _place(place):
    return lambda known: known[place]


def _noted_place(place, reads):
    def tell(known):
        reads.append(place)
        return known[place]
    return tell


def _once(inner, place):
    """The same, gone through once as long as its place isn't cleared."""
    def tell(known):
        if known[place] == NOT_ASKED:
            known[place] = inner(known)
        return known[place]
    return tell


def _clearing(inner, places):
    """The same, once these places are cleared."""
    if len(places) == 0:
        return inner

    def tell(known):
        for place in places:
            known[place] = NOT_ASKED
        return inner(known)
    return tell


def _strict(first, second, way):
    """What the way makes of both, None where one isn't told."""
    def tell(known):
        one = first(known)
        if one is None:
            return None
        other = second(known)
        return None if other is None else way(one, other)
    return tell


def _add(one, other):
    return one + other


def _sub(one, other):
    return one - other


def _mul(one, other):
    return one * other


def _less(one, other):
    return one < other


def _most(one, other):
    return one <= other


def _same(one, other):
    return one == other


STRICT_WAYS = {"add": _add, "sub": _sub, "mul": _mul, "less": _less, "most": _most}


def not_told(inner):
    def tell(known):
        told = inner(known)
        return None if told is None else not told
    return tell


def _and(first, second):
    def tell(known):
        one = first(known)
        if one is False:
            return False
        other = second(known)
        if other is False:
            return False
        return None if one is None or other is None else True
    return tell


def _or(first, second):
    def tell(known):
        one = first(known)
        if one is True:
            return True
        other = second(known)
        if other is True:
            return True
        return None if one is None or other is None else False
    return tell


def _then(first, second):
    return _or(not_told(first), second)


def _but(first, second):
    return _and(first, not_told(second))


TRUTH_WAYS = {"and": _and, "or": _or, "then": _then}
SOME_WAYS = {"both": _and, "either": _or, "but": _but}


def _each_of(tells):
    """The and of them all."""
    def tell(known):
        found = True
        for part in tells:
            told = part(known)
            if told is False:
                return False
            if told is None:
                found = None
        return found
    return tell


def _each_value(inner, place, worths, closing):
    """The and of them all where closing is False, the or where it's True: by each of the worths at that place."""
    def tell(known):
        found = not closing
        for value in worths:
            known[place] = value
            told = inner(known)
            if told == closing:
                return closing
            if told is None:
                found = None
        return found
    return tell


def _like(first, second, known):
    """What both tell, None where one doesn't or they're unlike."""
    one = first(known)
    if one is None:
        return None
    return one if second(known) == one else None


def _like_all(tells, known):
    """What all of them tell, None where one doesn't or two are unlike."""
    one = tells[0](known)
    if one is None:
        return None
    for tell in tells[1:]:
        if tell(known) != one:
            return None
    return one


def _chosen(truth, first, second):
    def tell(known):
        told = truth(known)
        if told is None:
            return _like(first, second, known)
        return first(known) if told else second(known)
    return tell


def _same_all(firsts, seconds):
    def tell(known):
        found = True
        for first, second in zip(firsts, seconds):
            one = first(known)
            other = second(known)
            if one is None or other is None:
                found = None
            elif one != other:
                return False
        return found
    return tell


def _counted(tells):
    def tell(known):
        many = 0
        for part in tells:
            told = part(known)
            if told is None:
                return None
            if told:
                many += 1
        return many
    return tell


def _at(tells, where, numbers):
    """What the teller of the ELEMENT that where tells tells."""
    def tell(known):
        member = where(known)
        if member is None:
            return _like_all(tells, known)
        part = tells[numbers[member]]
        return part(known)
    return tell


def _put_at(number, old, where, new, numbers):
    """What a map tells at the ELEMENT of that number once the new one is put where it's told."""
    def tell(known):
        member = where(known)
        if member is None:
            return _like(old, new, known)
        return new(known) if numbers[member] == number else old(known)
    return tell


class Tellers:
    """All that is needed to make tellers of EXPRESSIONS of one CONTEXT."""

    def __init__(self, carriers, context, reads):
        """reads is None, or a list to which each teller adds the places of the CELLS that it looks at."""
        self.carriers = carriers
        self.context = context
        self.reads = reads
        # Each with its SMALL TYPE.
        self.cells = [row for name in context for row in cells_of(carriers, name, context[name])]
        self.places = {cell: place for place, (cell, _) in enumerate(self.cells)}
        self.numbers = {member: number for _, members in carriers for number, member in enumerate(members)}
        self.many_places = len(self.cells)
        self.once_places = []

    def nothing_known(self):
        """A list for all tellers that have been made so far."""
        return [None] * self.many_places

    def teller(self, expression):
        """Its teller, or its list of them where it's a some or a map."""
        ahead = len(self.once_places)
        tell = self.made(expression, {}, {})
        once = self.once_places[ahead:]
        return [_clearing(part, once) for part in tell] if isinstance(tell, list) else _clearing(tell, once)

    def new_place(self):
        self.many_places += 1
        return self.many_places - 1

    def made(self, expression, bound, slots):
        """As teller, within each and any by whose NAMES there are their SMALL TYPES and the places of their VALUES."""
        word = expression[0]
        if word in ("num", "yes", "no"):
            return _fixed(expression[1] if word == "num" else word == "yes")
        if word in BINDING:
            return self.made_of_binding(expression, bound, slots)
        if word in ("var", "elem", "none", "every", "all"):
            return self.made_of_names(expression, bound, slots)
        parts = []
        for part in expression[1:]:
            parts.append(self.made(part, bound, slots))
        if word == "just":
            _, name = sort_inside(self.carriers, self.context, bound, expression[1])
            tell = self.asked_once(expression[1], parts[0])
            return [_strict(tell, _fixed(member), _same) for member in elements_of(self.carriers, name)]
        if word == "put":
            where = self.asked_once(expression[2], parts[1])
            new = self.asked_once(expression[3], parts[2])
            return [_put_at(number, old, where, new, self.numbers) for number, old in enumerate(parts[0])]
        if word == "if" and isinstance(parts[1], list):
            truth = self.asked_once(expression[1], parts[0])
            return [_chosen(truth, one, other) for one, other in zip(parts[1], parts[2])]
        return self.made_of_parts(word, parts)

    def asked_once(self, expression, tell):
        """For what the tellers of several ELEMENTS ask: where such nest, to go through it for each could take
        without end."""
        if expression[0] in CHEAP:
            return tell
        place = self.new_place()
        self.once_places.append(place)
        return _once(tell, place)

    def made_of_binding(self, expression, bound, slots):
        word, name, kind, inner = expression
        if not has_free(inner, name):
            # All VALUES are alike; to go through them one by one could take without end where many such nest.
            return self.made(inner, bound, slots)
        place = self.new_place()
        ahead = len(self.once_places)
        tell = self.made(inner, {**bound, name: kind}, {**slots, name: place})
        tell = _clearing(tell, self.once_places[ahead:])
        return _each_value(tell, place, values_of(self.carriers, kind), word == "any")

    def made_of_names(self, expression, bound, slots):
        word = expression[0]
        name = expression[1]
        if word == "elem":
            return _fixed(name)
        if word == "var":
            return _place(slots[name]) if name in slots else self.made_of_cells(name)
        if word == "all":
            tell = self.asked_once(expression[2], self.made(expression[2], bound, slots))
        else:
            tell = _fixed(word == "every")
        return [tell for _ in elements_of(self.carriers, name)]

    def made_of_cells(self, name):
        kind = self.context[name]
        tells = [self.made_of_cell(cell) for cell, _ in cells_of(self.carriers, name, kind)]
        return tells if kind[0] in ("some", "map") else tells[0]

    def made_of_cell(self, cell):
        place = self.places[cell]
        return _place(place) if self.reads is None else _noted_place(place, self.reads)

    def made_of_parts(self, word, parts):
        if word in STRICT_WAYS:
            return _strict(parts[0], parts[1], STRICT_WAYS[word])
        if word in TRUTH_WAYS:
            way = TRUTH_WAYS[word]
            return way(parts[0], parts[1])
        if word in SOME_WAYS:
            way = SOME_WAYS[word]
            return [way(one, other) for one, other in zip(parts[0], parts[1])]
        if word == "not":
            return not_told(parts[0])
        if word == "count":
            return _counted(parts[0])
        if word == "if":
            return _chosen(parts[0], parts[1], parts[2])
        if word == "within":
            return _each_of([_then(one, other) for one, other in zip(parts[0], parts[1])])
        if word == "in":
            return _at(parts[1], parts[0], self.numbers)
        if word == "at":
            return _at(parts[0], parts[1], self.numbers)
        return _same_all(parts[0], parts[1]) if isinstance(parts[0], list) else _strict(parts[0], parts[1], _same)
