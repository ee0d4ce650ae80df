"""The runs of a model."""

from stairwright.errors import BadRun, BadState
from stairwright.forms import is_tuple_of
from stairwright.levels import deed_called
from stairwright.limits import MOST_STEPS
from stairwright.states import is_state
from stairwright.types import is_value, is_whole, values_of
from stairwright.worths import worth


def starts(carriers, model):
    """A list of all STATES after START, in the orders of what from gives."""
    return _states_by(_choices(carriers, model, model[3][0], {}))


def following(carriers, model, state):
    """A list of all NEXT (DEED'S NAME, WORTHS, STATE) at a STATE; BadState."""
    if not is_state(carriers, model[1], state):
        raise BadState("no state of the model")
    ways = _ways(carriers, model, state)
    return [(name, worths, after) for name, worths, choices in ways for after in _states_by(choices)]


def has_next(carriers, model, state):
    """Whether there is any NEXT one at a STATE: they aren't all made."""
    return any([_how_many(choices) > 0 for _, _, choices in _ways(carriers, model, state)])


def is_run(carriers, model, thing):
    """Whether it's a RUN of the MODEL."""
    if not is_tuple_of(thing, 2, 2) or not is_tuple_of(thing[1], 0, MOST_STEPS):
        return False
    state, steps = thing
    if not _is_given(carriers, model, _choices(carriers, model, model[3][0], {}), state):
        return False
    for step in steps:
        if not _is_next(carriers, model, state, step):
            return False
        state = step[2]
    return True


def run_by(carriers, model, picks):
    """The RUN that takes the STATES and NEXT ones of these numbers, as far as there are any; BadRun."""
    if not _are_picks(picks):
        raise BadRun("no picks: one to 201 whole numbers from 0 on")
    begin = _choices(carriers, model, model[3][0], {})
    if _how_many(begin) == 0:
        raise BadRun("there is no state to begin with")
    first = _state_of_number(begin, picks[0] % _how_many(begin))
    state = first
    steps = []
    for pick in picks[1:]:
        ways = _ways(carriers, model, state)
        many = sum([_how_many(choices) for _, _, choices in ways])
        if many == 0:
            break
        steps.append(_next_of_number(ways, pick % many))
        state = steps[-1][2]
    return (first, tuple(steps))


def _are_picks(thing):
    if not isinstance(thing, (tuple, list)) or not 1 <= len(thing) <= MOST_STEPS + 1:
        return False
    return all([is_whole(pick) and pick >= 0 for pick in thing])


def _ways(carriers, model, state):
    """A list of (DEED'S NAME, WORTHS, what each VARIABLE may be behind it) of all that can be done at a STATE."""
    found = []
    for deed in model[4]:
        for worths in _worths_of(carriers, deed[2]):
            sight = _sight(state, deed, worths)
            if _can_be_done(carriers, deed, sight):
                found.append((deed[0], worths, _choices(carriers, model, deed[4], sight)))
    return found


def _worths_of(carriers, params):
    """A list of all WORTHS of PARAMS, the first one's order first."""
    found = [()]
    for _, kind in params:
        found = [(*ahead, value) for ahead in found for value in values_of(carriers, kind)]
    return found


def _sight(state, deed, worths):
    """What GUARDS and ACTIONS of a DEED see: the STATE and the PARAMS."""
    return {**state, **{name: value for (name, _), value in zip(deed[2], worths)}}


def _can_be_done(carriers, deed, sight):
    for guard in deed[3]:
        if not worth(carriers, guard, sight):
            return False
    return True


def _choices(carriers, model, actions, sight):
    """A list of (NAME, VALUES): what each VARIABLE may be behind ACTIONS, none where a WORTH is no VALUE."""
    given = {name: (word, worth(carriers, expression, sight)) for word, name, expression in actions}
    found = []
    for name, kind in model[1]:
        word, told = given.get(name, ("be", sight.get(name)))
        if word == "from":
            found.append((name, told))
        else:
            found.append((name, (told,) if is_value(carriers, kind, told) else ()))
    return found


def _states_by(choices):
    """A list of all STATES that take one of each, in the order of the first one's first."""
    found = [{}]
    for name, values in choices:
        found = [{**ahead, name: value} for ahead in found for value in values]
    return found


def _how_many(choices):
    """How many STATES there are by these choices."""
    many = 1
    for _, values in choices:
        many = many * len(values)
    return many


def _state_of_number(choices, number):
    """The one of that number of _states_by, without those ahead of it: they may be thousands."""
    picked = {}
    for name, values in reversed(choices):
        picked[name] = values[number % len(values)]
        number = number // len(values)
    return {name: picked[name] for name, _ in choices}


def _next_of_number(ways, number):
    """The one of that number of all the NEXT ones."""
    for name, worths, choices in ways:
        if number < _how_many(choices):
            return (name, worths, _state_of_number(choices, number))
        number = number - _how_many(choices)
    return None


def _is_given(carriers, model, choices, thing):
    """Whether it's one of the STATES by these choices, of anything."""
    if not is_state(carriers, model[1], thing):
        return False
    return all([thing[name] in values for name, values in choices])


def _is_next(carriers, model, state, thing):
    """Whether it's one of the NEXT ones at that STATE, of anything."""
    if not is_tuple_of(thing, 3, 3) or not isinstance(thing[0], str):
        return False
    name, worths, after = thing
    deed = deed_called(model, name)
    if deed is None or not is_tuple_of(worths, len(deed[2]), len(deed[2])):
        return False
    if not all([is_value(carriers, kind, value) for (_, kind), value in zip(deed[2], worths)]):
        return False
    sight = _sight(state, deed, worths)
    if not _can_be_done(carriers, deed, sight):
        return False
    return _is_given(carriers, model, _choices(carriers, model, deed[4], sight), after)
