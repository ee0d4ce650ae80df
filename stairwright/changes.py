"""The changes of a development."""

from stairwright.errors import BadChange, NoDeed
from stairwright.forms import first_things
from stairwright.types import is_name, is_whole, word_of

# What stands behind a CHANGE's word.
PARTS = {
    "whole": ("any",),
    "model": ("level", "any"),
    "more": ("any",),
    "fewer": (),
    "invariant": ("level", "label", "any"),
    "guards": ("level", "text", "any"),
    "actions": ("level", "text", "any"),
    "helps": ("level", "text", "any"),
}

# Which place of a DEED they change.
PLACES = {"guards": 3, "actions": 4, "helps": 5}


def changed_by(development, change):
    """What a CHANGE makes of a DEVELOPMENT, which may be none; BadChange, NoDeed."""
    if not _has_form(development, change):
        raise BadChange("no change by its word, or by what stands behind it")
    carriers, models = development
    word = change[0]
    if word == "whole":
        return change[1]
    if word == "more":
        return (carriers, (*models, change[1]))
    if word == "fewer":
        if len(models) == 1:
            raise BadChange("a single model can't be taken away")
        return (carriers, models[:-1])
    level = change[1]
    if word == "model":
        model = change[2]
    elif word == "invariant":
        model = _with_invariant(models[level], change[2], change[3])
    else:
        model = _with_deed(models[level], word, change[2], change[3])
    return (carriers, _put_at(models, level, model))


def _has_form(development, thing):
    parts = PARTS.get(word_of(thing))
    if parts is None or len(thing) != len(parts) + 1:
        return False
    return all([_is_part(development, part, kind) for part, kind in zip(thing[1:], parts)])


def _is_part(development, thing, kind):
    if kind == "level":
        return is_whole(thing) and 0 <= thing < len(development[1])
    if kind == "label":
        return is_name(thing)
    return kind == "any" or isinstance(thing, str)


def _put_at(things, place, new):
    return (*things[:place], new, *things[place + 1:])


def _with_invariant(model, label, expression):
    """The MODEL with that INVARIANT, in the place of the one of that LABEL or as the last one; without it of None."""
    labels = first_things(model[2])
    if label in labels:
        place = labels.index(label)
        more = () if expression is None else ((label, expression),)
        return _put_at(model, 2, (*model[2][:place], *more, *model[2][place + 1:]))
    if expression is None:
        raise BadChange("there is no such invariant to be taken away")
    return _put_at(model, 2, (*model[2], (label, expression)))


def _with_deed(model, word, name, things):
    """The MODEL with other GUARDS, ACTIONS or HELPS of the DEED of that NAME."""
    names = first_things(model[4])
    if name not in names:
        raise NoDeed(name)
    place = names.index(name)
    return _put_at(model, 4, _put_at(model[4], place, _put_at(model[4][place], PLACES[word], things)))
