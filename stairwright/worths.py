"""The worth of an expression at a state, and what is told of it by less than a state."""

from stairwright.expressions import BARE, BINDING, first_part, has_free
from stairwright.tellers import Tellers
from stairwright.types import elements_of, values_of


def _add(carriers, one, other):
    return one + other


def _sub(carriers, one, other):
    return one - other


def _mul(carriers, one, other):
    return one * other


def _less(carriers, one, other):
    return one < other


def _most(carriers, one, other):
    return one <= other


def _same(carriers, one, other):
    return one == other


def _not(carriers, truth):
    return not truth


def _in(carriers, member, some):
    return member in some


def _within(carriers, some, other):
    return all([member in other for member in some])


def _both(carriers, some, other):
    return tuple([member for member in some if member in other])


def _either(carriers, some, other):
    # All ELEMENTS are unlike, so those of other SETS are in neither.
    return tuple([member for _, members in carriers for member in members if member in some or member in other])


def _but(carriers, some, other):
    return tuple([member for member in some if member not in other])


def _just(carriers, member):
    return (member,)


def _count(carriers, some):
    return len(some)


def _number_of(carriers, member):
    """The place of an ELEMENT in its SET."""
    for _, members in carriers:
        if member in members:
            return members.index(member)
    return None


def _at(carriers, table, member):
    return table[_number_of(carriers, member)]


def _put(carriers, table, member, new):
    number = _number_of(carriers, member)
    return (*table[:number], new, *table[number + 1:])


WAYS = {"add": _add, "sub": _sub, "mul": _mul, "less": _less, "most": _most, "same": _same, "not": _not, "in": _in,
        "within": _within, "both": _both, "either": _either, "but": _but, "just": _just, "count": _count, "at": _at,
        "put": _put}


def worth(carriers, expression, state):
    """The WORTH of an EXPRESSION at a STATE."""
    word = expression[0]
    if word in BARE:
        return _worth_of_bare(carriers, expression, state)
    if word in BINDING:
        return _worth_of_binding(carriers, expression, state)
    if word in ("and", "or", "then", "if"):
        return _worth_of_choice(carriers, expression, state)
    parts = []
    for part in expression[first_part(expression):]:
        parts.append(worth(carriers, part, state))
    if word == "all":
        return tuple([parts[0] for _ in elements_of(carriers, expression[1])])
    way = WAYS[word]
    return way(carriers, *parts)


def _worth_of_bare(carriers, expression, state):
    word = expression[0]
    if word in ("yes", "no"):
        return word == "yes"
    if word == "var":
        return state[expression[1]]
    if word == "none":
        return ()
    return elements_of(carriers, expression[1]) if word == "every" else expression[1]


def _worth_of_choice(carriers, expression, state):
    word = expression[0]
    first = worth(carriers, expression[1], state)
    if word == "if":
        return worth(carriers, expression[2] if first else expression[3], state)
    if word == "or":
        return True if first else worth(carriers, expression[2], state)
    if first:
        return worth(carriers, expression[2], state)
    return word == "then"


def _worth_of_binding(carriers, expression, state):
    word, name, kind, inner = expression
    if not has_free(inner, name):
        # All VALUES are alike; to go through them one by one could take without end where many such nest.
        return worth(carriers, inner, state)
    closing = word == "any"
    for value in values_of(carriers, kind):
        if worth(carriers, inner, {**state, name: value}) == closing:
            return closing
    return not closing


def part_worth(carriers, context, expression, known):
    """The PART WORTH of an EXPRESSION of the CONTEXT by KNOWN."""
    tellers = Tellers(carriers, context, None)
    tell = tellers.teller(expression)
    facts = tellers.nothing_known()
    for place, (cell, _) in enumerate(tellers.cells):
        facts[place] = known.get(cell)
    if isinstance(tell, list):
        return tuple([part(facts) for part in tell])
    return tell(facts)
