"""States: what they are, and what they tell of their cells."""

from stairwright.types import cells_of, is_value


def is_state(carriers, names, thing):
    """Whether it's a STATE of just these (NAME, TYPE), of anything."""
    if not isinstance(thing, dict) or len(thing) != len(names):
        return False
    for name, kind in names:
        if name not in thing or not is_value(carriers, kind, thing[name]):
            return False
    return True


def value_of_cells(carriers, name, kind, told):
    """The VALUE of a NAME of that TYPE, by the VALUES of its CELLS."""
    cells = [cell for cell, _ in cells_of(carriers, name, kind)]
    if kind[0] == "some":
        return tuple([cell[1] for cell in cells if told[cell]])
    return tuple([told[cell] for cell in cells]) if kind[0] == "map" else told[cells[0]]
