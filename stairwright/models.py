"""Developments: what they are, and what is told of their models."""

from stairwright.errors import BadModel, NoDeed
from stairwright.forms import is_tuple_of
from stairwright.levels import deed_called, fault_of, kept_names
from stairwright.limits import MOST_MODELS
from stairwright.types import is_carriers


def _bad_place(thing):
    """The place by which BadModel tells why it's no DEVELOPMENT, or None of one."""
    if not is_tuple_of(thing, 2, 2) or not is_tuple_of(thing[1], 1, MOST_MODELS):
        return ("form",)
    carriers, models = thing
    if not is_carriers(carriers):
        return ("carriers",)
    for level in range(len(models)):
        fault = fault_of(carriers, models, level)
        if fault is not None:
            return (level, *fault)
    return None


def need_development(thing):
    """None of a DEVELOPMENT, else BadModel."""
    place = _bad_place(thing)
    if place is not None:
        raise BadModel(place)


def is_development(thing):
    """Whether it's a DEVELOPMENT."""
    return _bad_place(thing) is None


def kept_in(development, level):
    """A tuple of the NAMES of the VARIABLES that are KEPT in the MODEL of that LEVEL, in their order there."""
    models = development[1]
    return tuple(kept_names(models[level], models[level - 1] if level > 0 else None))


def variables_to(development, level):
    """A tuple of (NAME, TYPE) of all VARIABLES of LEVELS 0 to that, in their order, each once."""
    found = {}
    for model in development[1][:level + 1]:
        for name, kind in model[1]:
            found[name] = kind
    return tuple([(name, found[name]) for name in found])


def deed_of(model, name):
    """The DEED of that NAME; NoDeed of anything else."""
    deed = deed_called(model, name) if isinstance(name, str) else None
    if deed is None:
        raise NoDeed(name)
    return deed


def is_made(model):
    """Whether a CODE can be made from it: START and DEEDS have no ACTION from, and DEEDS no PARAMS."""
    actions = [action for deed in model[4] for action in deed[4]]
    words = [action[0] for action in (*model[3][0], *actions)]
    return "from" not in words and not any([len(deed[2]) > 0 for deed in model[4]])
