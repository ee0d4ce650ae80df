"""Goals that are handed in, and the search for their papers and breaks."""

from stairwright.errors import BadGoal, TooGreat
from stairwright.expressions import is_goal_name, is_goal_truth
from stairwright.forms import first_things, is_tuple_of
from stairwright.limits import MOST_GOAL_NAMES, MOST_HYPS, MOST_SPLITS
from stairwright.search import Search
from stairwright.types import carrier_names, is_type, need_carriers


def need_goal(carriers, goal):
    """None of a GOAL; BadCarriers, BadGoal."""
    need_carriers(carriers)
    if not _is_goal(carriers, goal):
        raise BadGoal("no goal: an ID, names, hyps and a wish of these names")


def _is_goal(carriers, thing):
    if not is_tuple_of(thing, 4, 4) or not is_tuple_of(thing[0], 4, 4):
        return False
    _, names, hyps, wish = thing
    if not _are_names(carriers, names) or not is_tuple_of(hyps, 0, MOST_HYPS):
        return False
    context = dict(names)
    for hyp in hyps:
        if not is_goal_truth(carriers, context, hyp):
            return False
    return is_goal_truth(carriers, context, wish)


def _are_names(carriers, thing):
    """Whether it's a tuple of (NAME, TYPE), the NAMES unlike and none that of a SET or an ELEMENT."""
    if not is_tuple_of(thing, 0, MOST_GOAL_NAMES):
        return False
    for row in thing:
        if not is_tuple_of(row, 2, 2) or not is_goal_name(row[0]) or not is_type(carriers, row[1]):
            return False
    names = first_things(thing) + carrier_names(carriers)
    return len(set(names)) == len(names)


def paper_of(carriers, goal):
    """A PAPER of a TRUE GOAL, None of another one; BadCarriers, BadGoal, TooGreat."""
    need_goal(carriers, goal)
    return _searched(carriers, goal).told_paper


def break_of(carriers, goal):
    """A BREAK of a GOAL that isn't TRUE, None of a TRUE one; BadCarriers, BadGoal, TooGreat."""
    need_goal(carriers, goal)
    search = _searched(carriers, goal)
    return search.state() if search.told_paper is None else None


def _searched(carriers, goal):
    """The search that came to its end. Some GOALS that are too great by one way are small by the other one."""
    for by_wish, most in ((True, MOST_SPLITS // 5), (False, MOST_SPLITS // 2), (True, MOST_SPLITS)):
        search = Search(carriers, goal, by_wish, most)
        if search.has_ended():
            return search
    raise TooGreat("too many splits to tell whether the goal is true")
