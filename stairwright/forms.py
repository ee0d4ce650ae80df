"""The form of a model: all that it has to be but for what its expressions are."""

from stairwright.limits import (MOST_ACTIONS, MOST_DEEDS, MOST_GUARDS, MOST_HELPS, MOST_INVARIANTS, MOST_PARAMS,
                                MOST_VARIABLES)
from stairwright.types import is_name, is_small, is_type


def is_tuple_of(thing, least, most):
    """Whether it's a tuple of so many things."""
    return isinstance(thing, tuple) and least <= len(thing) <= most


def first_things(rows):
    """What stands first in each: the NAMES of VARIABLES, PARAMS, DEEDS and HELPS, the LABELS of INVARIANTS."""
    return [row[0] for row in rows]


def has_form(carriers, thing):
    """Whether it's a MODEL by its form."""
    if not is_tuple_of(thing, 6, 6) or not is_name(thing[0]):
        return False
    variables, invariants, start, deeds = thing[1:5]
    if not _are_typed(variables, 1, MOST_VARIABLES, is_type, carriers):
        return False
    if not _are_named(invariants, MOST_INVARIANTS) or not _are_unlike(first_things(invariants)):
        return False
    names = first_things(variables)
    if not _is_start(start, names) or not is_tuple_of(deeds, 1, MOST_DEEDS):
        return False
    for deed in deeds:
        if not _is_deed(carriers, deed, names):
            return False
    return _are_unlike(first_things(deeds))


def _are_unlike(names):
    return len(set(names)) == len(names)


def _are_named(things, most):
    """Whether it's a tuple of at most so many pairs with a NAME first."""
    if not is_tuple_of(things, 0, most):
        return False
    for thing in things:
        if not is_tuple_of(thing, 2, 2) or not is_name(thing[0]):
            return False
    return True


def _are_typed(things, least, most, is_kind, carriers):
    """Whether it's a tuple of pairs of a NAME, all of these unlike, and a TYPE of that kind."""
    if not _are_named(things, most) or len(things) < least:
        return False
    for _, kind in things:
        if not is_kind(carriers, kind):
            return False
    return _are_unlike(first_things(things))


def _are_actions(things, names):
    """Whether it's a tuple of ACTIONS of some of these VARIABLES, each once, in their order."""
    if not is_tuple_of(things, 0, MOST_ACTIONS):
        return False
    for thing in things:
        if not is_tuple_of(thing, 3, 3) or not isinstance(thing[0], str) or thing[0] not in ("be", "from"):
            return False
        if not is_name(thing[1]):
            return False
    given = [thing[1] for thing in things]
    return given == [name for name in names if name in given]


def _is_start(thing, names):
    if not is_tuple_of(thing, 2, 2):
        return False
    actions, helps = thing
    return _are_actions(actions, names) and len(actions) == len(names) and _are_named(helps, MOST_HELPS)


def _is_deed(carriers, thing, names):
    if not is_tuple_of(thing, 6, 6):
        return False
    name, above, params, guards, actions, helps = thing
    # START has this NAME in GOALS.
    if not is_name(name) or name == "start":
        return False
    if above is not None and not is_name(above):
        return False
    if not _are_typed(params, 0, MOST_PARAMS, is_small, carriers) or not is_tuple_of(guards, 0, MOST_GUARDS):
        return False
    return _are_actions(actions, names) and _are_named(helps, MOST_HELPS)
