"""What a CODE of a MADE MODEL marks, by the MODEL's own WORTHS."""

from stairwright.types import elements_of
from stairwright.worths import worth


def numbers_of(carriers, variables, state):
    """What is in the boxes: the CELLS of a STATE, whose numbers may be beyond their TYPES."""
    found = []
    for name, kind in variables:
        value = state[name]
        if kind[0] == "some":
            found += [int(member in value) for member in elements_of(carriers, kind[1])]
        elif kind[0] == "map":
            found += [number_of(carriers, part) for part in value]
        else:
            found.append(number_of(carriers, value))
    return tuple(found)


def number_of(carriers, value):
    if isinstance(value, str):
        return [members.index(value) for _, members in carriers if value in members][0]
    return int(value)


def plain_marks(carriers, model, most):
    """A list of (K, numbers in boxes) of at most so many marks behind the first; None for K where it stops."""
    state = {name: worth(carriers, expression, {}) for _, name, expression in model[3][0]}
    found = [(0, numbers_of(carriers, model[1], state))]
    for _ in range(most):
        ready = [number for number, deed in enumerate(model[4])
                 if all(worth(carriers, guard, state) for guard in deed[3])]
        if not ready:
            return found + [(None, found[-1][1])]
        actions = model[4][ready[0]][4]
        state = {**state, **{name: worth(carriers, expression, state) for _, name, expression in actions}}
        found.append((ready[0] + 1, numbers_of(carriers, model[1], state)))
    return found


def parts_of(expression):
    """How many EXPRESSIONS it and all in it are."""
    words = {"num", "yes", "no", "elem", "none", "every", "var"}
    if expression[0] in words:
        return 1
    first = {"each": 3, "any": 3, "all": 2}.get(expression[0], 1)
    return 1 + sum(parts_of(part) for part in expression[first:])


def parts_of_model(model):
    """How many EXPRESSIONS its START, GUARDS and ACTIONS have in all."""
    actions = list(model[3][0]) + [action for deed in model[4] for action in deed[4]]
    guards = [guard for deed in model[4] for guard in deed[3]]
    return sum(parts_of(part) for part in guards + [action[2] for action in actions])
