"""End to end: the run of the code that is made from a development, and its account."""

from stairwright.accounts import account_of, check_account
from stairwright.codes import made_code
from stairwright.forms import is_tuple_of
from stairwright.machine import run_of
from stairwright.runs import has_next, is_run


def upheld(development, *, marks=20):
    """(RUN, ACCOUNT, stopped) of the CODE made from it, to at most so many marks; BadModel, NotMade, TooGreat, BadRun,
    Broken."""
    run, stopped = run_of(development, made_code(development), marks=marks)
    return (run, account_of(development, run), stopped)


def is_upheld(development, thing, *, marks=20):
    """Whether it's so by runs, accounts and what stops; BadModel, NotMade, TooGreat, BadRun."""
    run, stopped = run_of(development, made_code(development), marks=marks)
    if not is_tuple_of(thing, 3, 3) or not isinstance(thing[2], bool) or thing[2] != stopped:
        return False
    carriers, models = development
    # By is_run ahead of ==, by which a truth is the same as a number.
    if not is_run(carriers, models[-1], thing[0]) or thing[0] != run:
        return False
    if not check_account(development, run, thing[1]):
        return False
    return not stopped or not _goes_on(development, thing[1])


def _goes_on(development, account):
    """Whether a DEED of any LEVEL can be done at the last STATES."""
    carriers, models = development
    return any([has_next(carriers, model, state) for model, state in zip(models, last_states(account))])


def last_states(account):
    """A list of the STATES of all LEVELS behind the last STEP."""
    states, rows = account
    return [state for _, _, state in rows[-1]] if len(rows) > 0 else list(states)
