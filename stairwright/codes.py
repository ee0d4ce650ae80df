"""Codes: what they are, and how one is made from a model."""

from stairwright.errors import NotMade, TooGreat
from stairwright.forms import is_tuple_of
from stairwright.making import Making
from stairwright.models import is_made, need_development
from stairwright.types import is_whole, word_of

MOST_ORDERS = 5000
MOST_BOXES = 1000

# What stands behind an ORDER's word.
PARTS = {
    "set": ("box", "number"),
    "copy": ("box", "box"),
    "add": ("box", "box", "box"),
    "sub": ("box", "box", "box"),
    "mul": ("box", "box", "box"),
    "less": ("box", "box", "box"),
    "same": ("box", "box", "box"),
    "jump": ("place",),
    "none": ("box", "place"),
    "mark": ("count",),
    "stop": (),
}


def is_code(thing):
    """Whether it's a CODE."""
    if not is_tuple_of(thing, 1, MOST_ORDERS):
        return False
    return all([is_order(part, len(thing)) for part in thing])


def is_order(thing, many):
    """Whether it's an ORDER of a CODE of so many; of any one where it's None."""
    parts = PARTS.get(word_of(thing))
    if parts is None or len(thing) != len(parts) + 1:
        return False
    return all([_is_part(part, kind, many) for part, kind in zip(thing[1:], parts)])


def _is_part(thing, kind, many):
    if not is_whole(thing):
        return False
    if kind == "box":
        return 0 <= thing < MOST_BOXES
    if kind == "place":
        return thing >= 0 and (many is None or thing < many)
    return kind == "number" or thing >= 0


def made_code(development):
    """A CODE that is of the lowest MODEL; BadModel, NotMade, TooGreat."""
    need_made(development)
    carriers, models = development
    _, variables, _, (actions, _), deeds, _ = models[-1]
    making = Making(carriers, variables)
    # The box of 0 has it anyway.
    for number in range(1, len(making.numbers)):
        making.order("set", making.numbers[number], number)
    making.write_actions(actions)
    making.order("mark", 0)
    again = len(making.orders)
    for number, (_, _, _, guards, deed_actions, _) in enumerate(deeds):
        not_done = making.write_guards(guards)
        making.write_actions(deed_actions)
        making.order("mark", number + 1)
        making.order("jump", again)
        for place, box in not_done:
            making.none_from(place, box)
    making.order("stop")
    if len(making.orders) > MOST_ORDERS:
        raise TooGreat("a code of too many orders")
    return tuple(making.orders)


def need_made(development):
    """None of a DEVELOPMENT whose lowest MODEL is MADE; BadModel, NotMade."""
    need_development(development)
    if not is_made(development[1][-1]):
        raise NotMade("the lowest model has an action from, or a deed with params")
