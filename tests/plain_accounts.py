"""ACCOUNTS led by HELPS, and what breaks them, word by word as [8], [9] and [11] say: slow, and with nothing kept."""

from stairwright.goals import goals_of
from stairwright.papercheck import check_break
from stairwright.worths import worth


def start_of(model):
    return ("start", None, (), (), *model[3])


def deed_called(model, name):
    return start_of(model) if name == "start" else [deed for deed in model[4] if deed[0] == name][0]


def sight_of(names, ahead, deed, worths, after):
    """The STATE of a GOAL's NAMES."""
    sight = {**ahead, **{name: value for (name, _), value in zip(deed[2], worths)}}
    sight.update({name + "'": value for name, value in after.items()})
    return {name: sight[name] for name, _ in names}


def above_of(carriers, model, above, deed, ahead, worths, after):
    """What the DEED ABOVE does: (NAME, WORTHS, STATE)."""
    name = "start" if deed[0] == "start" else deed[1]
    if name is None:
        return (None, (), {name: ahead[name] for name, _ in above[1]})
    deed_above = deed_called(above, name)
    own = {name: value for (name, _), value in zip(deed[2], worths)}
    sight = {**ahead, **own}
    helps = {name: worth(carriers, expression, sight) for name, expression in deed[5]}
    told = {**helps, **own}
    picked = tuple(told[name] for name, _ in deed_above[2])
    sight_above = {**ahead, **{name: told[name] for name, _ in deed_above[2]}}
    given = {name: (word, expression) for word, name, expression in deed_above[4]}
    state = {}
    for name_of, kind in above[1]:
        if (name_of, kind) in model[1]:
            state[name_of] = after[name_of]
        elif name_of not in given:
            state[name_of] = ahead[name_of]
        elif given[name_of][0] == "from":
            state[name_of] = helps[name_of]
        else:
            state[name_of] = worth(carriers, given[name_of][1], sight_above)
    return (name, picked, state)


def plain_row(development, ahead, step):
    """(ROW, None), or (None, ID) of what breaks it."""
    carriers, models = development
    row = [step]
    for level in reversed(range(len(models))):
        name, worths, after = row[0]
        if name is not None:
            deed = deed_called(models[level], name)
            for goal in goals_of(development):
                if goal[0][:2] == (level, name):
                    if check_break(carriers, goal, sight_of(goal[1], ahead, deed, worths, after)):
                        return (None, goal[0])
            if level > 0:
                row.insert(0, above_of(carriers, models[level], models[level - 1], deed, ahead, worths, after))
        elif level > 0:
            row.insert(0, (None, (), {name: ahead[name] for name, _ in models[level - 1][1]}))
    return (tuple(row), None)


def plain_account(development, run):
    """(ACCOUNT, None, None), or (None, STEP, ID) of what breaks it."""
    row, which = plain_row(development, {}, ("start", (), run[0]))
    if which is not None:
        return (None, None, which)
    states = tuple(state for _, _, state in row)
    rows = []
    for number, step in enumerate(run[1]):
        ahead = {name: value for _, _, state in row for name, value in state.items()}
        row, which = plain_row(development, ahead, step)
        if which is not None:
            return (None, number, which)
        rows.append(row)
    return ((states, tuple(rows)), None, None)
