"""Names, carriers, types, the values of a type and its cells."""

from stairwright.errors import BadCarriers, BadType
from stairwright.limits import MOST_ELEMENTS, MOST_NUM, MOST_SETS

MOST_SIGNS = 8
SMALL_LETTERS = "abcdefghijklmnopqrstuvwxyz"
FIGURES = "0123456789"


def is_whole(thing):
    """Whether it's a whole number: True and False are none."""
    return isinstance(thing, int) and not isinstance(thing, bool)


def word_of(thing):
    """The word first in a tuple, or an empty text where there is none."""
    if isinstance(thing, tuple) and len(thing) > 0 and isinstance(thing[0], str):
        return thing[0]
    return ""


def is_name(thing):
    """Whether it's a NAME."""
    if not isinstance(thing, str) or not 1 <= len(thing) <= MOST_SIGNS:
        return False
    if thing[0] not in SMALL_LETTERS or thing in ("yes", "no"):
        return False
    return all([sign in SMALL_LETTERS or sign in FIGURES for sign in thing])


def is_carriers(thing):
    """Whether it's CARRIERS."""
    if not isinstance(thing, tuple) or len(thing) > MOST_SETS:
        return False
    if not all([_is_carrier(part) for part in thing]):
        return False
    names = carrier_names(thing)
    return len(set(names)) == len(names)


def _is_carrier(thing):
    """Whether it's (SET, ELEMENTS), unlike names aside."""
    if not isinstance(thing, tuple) or len(thing) != 2:
        return False
    name, members = thing
    if not is_name(name) or not isinstance(members, tuple):
        return False
    return 1 <= len(members) <= MOST_ELEMENTS and all([is_name(member) for member in members])


def need_carriers(carriers):
    """None of CARRIERS, else BadCarriers."""
    if not is_carriers(carriers):
        raise BadCarriers("no carriers: one to four names for each of at most three sets, all unlike")


def carrier_names(carriers):
    """A list of the NAMES of all SETS and ELEMENTS."""
    return [name for word, members in carriers for name in (word, *members)]


def has_set(carriers, thing):
    """Whether it's the NAME of a SET, of anything as thing."""
    return isinstance(thing, str) and thing in [name for name, _ in carriers]


def elements_of(carriers, name):
    """A tuple of the ELEMENTS of the SET called so."""
    for word, members in carriers:
        if word == name:
            return members
    raise BadType("no set is called so")


def is_small(carriers, thing):
    """Whether it's a SMALL TYPE."""
    word = word_of(thing)
    if word == "num":
        return len(thing) == 2 and is_whole(thing[1]) and 1 <= thing[1] <= MOST_NUM
    if word == "one":
        return len(thing) == 2 and has_set(carriers, thing[1])
    return word == "truth" and len(thing) == 1


def is_type(carriers, thing):
    """Whether it's a TYPE."""
    word = word_of(thing)
    if word == "some":
        return len(thing) == 2 and has_set(carriers, thing[1])
    if word == "map":
        return len(thing) == 3 and has_set(carriers, thing[1]) and is_small(carriers, thing[2])
    return is_small(carriers, thing)


def is_value(carriers, kind, thing):
    """Whether it's a VALUE of that TYPE."""
    word = kind[0]
    if word == "num":
        return is_whole(thing) and 0 <= thing <= kind[1]
    if word == "truth":
        return isinstance(thing, bool)
    members = elements_of(carriers, kind[1])
    if word == "one":
        return isinstance(thing, str) and thing in members
    if word == "some":
        return _is_part(members, thing)
    if not isinstance(thing, tuple) or len(thing) != len(members):
        return False
    return all([is_value(carriers, kind[2], part) for part in thing])


def _is_part(members, thing):
    """Whether it's a tuple of some of them, each once, in their order."""
    if not isinstance(thing, tuple) or len(thing) > len(members):
        return False
    if not all([isinstance(part, str) for part in thing]):
        return False
    return list(thing) == [member for member in members if member in thing]


def values_of(carriers, kind):
    """A tuple of all VALUES of a SMALL TYPE, in their order; BadType of anything else."""
    if not is_small(carriers, kind):
        raise BadType("values are told of num, truth and one alone")
    if kind[0] == "num":
        return tuple(range(kind[1] + 1))
    if kind[0] == "truth":
        return (False, True)
    return elements_of(carriers, kind[1])


def cells_of(carriers, name, kind):
    """A tuple of (CELL, SMALL TYPE) of a NAME of that TYPE, in the order of ELEMENTS."""
    if kind[0] not in ("some", "map"):
        return (((name, None), kind),)
    small = ("truth",) if kind[0] == "some" else kind[2]
    return tuple([((name, member), small) for member in elements_of(carriers, kind[1])])
