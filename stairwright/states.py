"""States: what they are, and what they tell of their cells."""

from stairwright.types import is_value


def is_state(carriers, names, thing):
    """Whether it's a STATE of just these (NAME, TYPE), of anything."""
    if not isinstance(thing, dict) or len(thing) != len(names):
        return False
    for name, kind in names:
        if name not in thing or not is_value(carriers, kind, thing[name]):
            return False
    return True
