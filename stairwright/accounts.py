"""Accounts: a run of each model above a run of the lowest one, step by step."""

from stairwright.errors import BadRun
from stairwright.forms import is_tuple_of
from stairwright.leading import Stair, state_of_all
from stairwright.levels import deed_called
from stairwright.models import kept_in, need_development, variables_to
from stairwright.runs import is_run
from stairwright.sights import Sight
from stairwright.states import is_state


def account_of(development, run):
    """The ACCOUNT led by HELPS of a RUN of the lowest MODEL; BadModel, BadRun, Broken."""
    _need_run(development, run)
    stair = Stair(development)
    first, steps = run
    row = stair.row_of_start({**first})
    states = tuple([state for _, _, state in row])
    rows = []
    for number, (name, worths, state) in enumerate(steps):
        row = stair.row_of(state_of_all(row), (name, worths, {**state}), number)
        rows.append(row)
    return (states, tuple(rows))


def _need_run(development, run):
    need_development(development)
    carriers, models = development
    if not is_run(carriers, models[-1], run):
        raise BadRun("no run of the lowest model")


def check_account(development, run, account):
    """Whether it's an ACCOUNT of the RUN, led by HELPS or not; BadModel, BadRun."""
    _need_run(development, run)
    return _is_formed(development, run, account) and _are_runs(development, run, account) and (
        _are_named(development, account[1]) and _are_glued(development, account))


def _is_formed(development, run, thing):
    """Whether it's a tuple of STATES and ROWS, as many as there are LEVELS and STEPS."""
    many = len(development[1])
    if not is_tuple_of(thing, 2, 2) or not is_tuple_of(thing[0], many, many):
        return False
    if not is_tuple_of(thing[1], len(run[1]), len(run[1])):
        return False
    for row in thing[1]:
        if not is_tuple_of(row, many, many) or not all([is_tuple_of(part, 3, 3) for part in row]):
            return False
    return True


def _are_runs(development, run, account):
    """Whether there is a RUN at each LEVEL, the very one at the lowest."""
    carriers, models = development
    states, rows = account
    for level, model in enumerate(models):
        steps = [row[level] for row in rows]
        done = (states[level], tuple([step for step in steps if step[0] is not None]))
        if not is_run(carriers, model, done) or not _are_standing(carriers, model, states[level], steps):
            return False
        if level == len(models) - 1 and done != run:
            return False
    return True


def _are_standing(carriers, model, state, steps):
    """Whether by None the STATE is as it was."""
    for name, worths, after in steps:
        if name is None:
            if not is_tuple_of(worths, 0, 0) or not is_state(carriers, model[1], after) or after != state:
                return False
        state = after
    return True


def _are_named(development, rows):
    """Whether above each DEED is the one that it names, or None."""
    models = development[1]
    for row in rows:
        for level in range(1, len(models)):
            name = row[level][0]
            above = None if name is None else deed_called(models[level], name)[1]
            if row[level - 1][0] != above:
                return False
    return True


def _are_glued(development, account):
    """Whether VARIABLES that are KEPT are alike, INVARIANTS True and VARIANTS less, at all STATES."""
    states, rows = account
    sight = Sight(development[0], variables_to(development, len(states) - 1))
    glue = Glue(development, sight)
    if not glue.holds_at(states):
        return False
    for row in rows:
        ahead = glue.variants_now()
        if not glue.holds_at([state for _, _, state in row]):
            return False
        for level, (name, _, _) in enumerate(row):
            if glue.is_by_new_deed(level, name) and not 0 <= glue.variants_now()[level] < ahead[level]:
                return False
    return True


class Glue:
    """What has to be so at the STATES of all LEVELS at once."""

    def __init__(self, development, sight):
        models = development[1]
        self.models = models
        self.sight = sight
        self.invariants = [sight.ready(row[1]) for model in models for row in model[2]]
        self.variants = [None if model[5] is None else sight.ready(model[5]) for model in models]
        self.kept = [kept_in(development, level) for level in range(len(models))]

    def holds_at(self, states):
        for level in range(1, len(states)):
            for name in self.kept[level]:
                if states[level][name] != states[level - 1][name]:
                    return False
        self.sight.go_to(state_of_all([(None, (), state) for state in states]))
        return all([self.sight.worth_of(tell) for tell in self.invariants])

    def variants_now(self):
        """What each MODEL's VARIANT is at the last STATES, None where it has none."""
        return [None if tell is None else self.sight.worth_of(tell) for tell in self.variants]

    def is_by_new_deed(self, level, name):
        """Whether that DEED has to make its MODEL's VARIANT less."""
        if name is None or self.variants[level] is None:
            return False
        return deed_called(self.models[level], name)[1] is None
