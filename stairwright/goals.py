"""The goals of a development: what is to be shown of each of its deeds, starts and levels."""

from stairwright.errors import NoGoal
from stairwright.expressions import put_in
from stairwright.forms import first_things, is_tuple_of
from stairwright.levels import deed_called, kept_names
from stairwright.models import need_development, variables_to
from stairwright.types import is_whole


def goals_of(development):
    """A tuple of all GOALS of a DEVELOPMENT; BadModel."""
    need_development(development)
    goals = []
    for level in range(len(development[1])):
        goals.extend(_goals_of_level(development, level))
    return tuple(goals)


def goal_of(development, goal):
    """The GOAL of that ID; BadModel, NoGoal."""
    return goal_among(goals_of(development), goal)


def goal_among(goals, goal):
    """The one of these GOALS that has that ID; NoGoal."""
    if _is_id(goal):
        for found in goals:
            if found[0] == goal:
                return found
    raise NoGoal(goal)


def _is_id(thing):
    """Whether it may be the ID of a GOAL: a truth, too, is the same as a number by ==."""
    if not is_tuple_of(thing, 4, 4) or not is_whole(thing[0]) or not isinstance(thing[2], str):
        return False
    if thing[1] is not None and not isinstance(thing[1], str):
        return False
    return thing[3] is None or isinstance(thing[3], str) or is_whole(thing[3])


def asked_anew(one, other):
    """A tuple of the IDS of the GOALS of the other DEVELOPMENT that aren't shown where those of the one are."""
    elder = goals_of(one)
    goals = goals_of(other)
    if one[0] == other[0]:
        goals = [goal for goal in goals if not _has_like(elder, goal)]
    return tuple(first_things(goals))


def _has_like(goals, goal):
    """Whether one of them has its NAMES, HYPS and WISH."""
    for found in goals:
        if found[3] == goal[3] and found[2] == goal[2] and found[1] == goal[1]:
            return True
    return False


def _goals_of_level(development, level):
    goals = []
    for name in ["start", *first_things(development[1][level][4])]:
        goals.extend(doing_of(development, level, name).goals())
    if level > 0:
        goals.append(_live_goal(development, level))
    return goals


def doing_of(development, level, name):
    """The DEED of that NAME with the one ABOVE it, or the START called "start"."""
    model = development[1][level]
    above = development[1][level - 1] if level > 0 else None
    if name == "start":
        return Doing(development, level, _start_as_deed(model), None if above is None else _start_as_deed(above))
    deed = deed_called(model, name)
    return Doing(development, level, deed, None if deed[1] is None else deed_called(above, deed[1]))


def _start_as_deed(model):
    actions, helps = model[3]
    return ("start", None, (), (), actions, helps)


def _hyps_to(development, level):
    """The INVARIANTS of LEVELS 0 to that."""
    return [expression for model in development[1][:level + 1] for _, expression in model[2]]


def _live_goal(development, level):
    above, model = development[1][level - 1:level + 1]
    hyps = (*_hyps_to(development, level), _some_deed(above))
    return ((level, None, "live", None), variables_to(development, level), hyps, _some_deed(model))


def _some_deed(model):
    """That some DEED can be done."""
    found = _can_be_done(model[4][0])
    for deed in model[4][1:]:
        found = ("or", found, _can_be_done(deed))
    return found


def _can_be_done(deed):
    _, _, params, guards, _, _ = deed
    found = guards[0] if len(guards) > 0 else ("yes",)
    for guard in guards[1:]:
        found = ("and", found, guard)
    for name, kind in reversed(params):
        found = ("any", name, kind, found)
    return found


def _primed(name):
    return f"{name}'"


def _within_num(expression, most):
    """That a number is a VALUE of ("num", most)."""
    return ("and", ("most", ("num", 0), expression), ("most", expression, ("num", most)))


class Doing:
    """A DEED, or the START as one, and the DEED ABOVE it where it has one."""

    def __init__(self, development, level, deed, above):
        model = development[1][level]
        self.development = development
        self.level = level
        self.model = model
        self.deed = deed
        self.above = above
        self.kinds = dict(model[1])
        self.kept = kept_names(model, development[1][level - 1] if level > 0 else None)
        self.helps = dict(deed[5])
        self.after = self.after_both()

    def after_both(self):
        """By NAME what a VARIABLE, of this MODEL or the one ABOVE, is AFTER both DEEDS, where not itself."""
        found = {}
        for word, name, expression in self.deed[4]:
            found[name] = expression if word == "be" else ("var", _primed(name))
        for word, name, expression in self.actions_above():
            if name not in self.kept:
                found[name] = self.as_helped(expression) if word == "be" else self.helps[name]
        return found

    def actions_above(self):
        return () if self.above is None else self.above[4]

    def as_helped(self, expression):
        """One of the DEED ABOVE with HELPS for those of its PARAMS that aren't this one's."""
        own = first_things(self.deed[2])
        missing = [name for name in first_things(self.above[2]) if name not in own]
        return put_in(expression, {name: self.helps[name] for name in missing})

    def is_start(self):
        return self.deed[0] == "start"

    def told_after(self, name):
        return self.after.get(name, ("var", name))

    def picked(self, name):
        """What a PARAM of the DEED ABOVE is."""
        return self.helps.get(name, ("var", name))

    def goals(self):
        """A list of all its GOALS."""
        wishes = self.picks() + self.guards() + self.does_and_helps() + self.keeps()
        wishes = wishes + self.fits_and_has() + self.stays() + self.less()
        names = self.names()
        bare_hyps = self.bare_hyps()
        hyps = (*bare_hyps, *self.hyps_of_from())
        goals = []
        for kind, thing, wish in wishes:
            which = (self.level, self.deed[0], kind, thing)
            goals.append((which, names, bare_hyps if kind == "has" else hyps, wish))
        return goals

    def names(self):
        primed = [(_primed(name), self.kinds[name]) for word, name, _ in self.deed[4] if word == "from"]
        if self.is_start():
            return tuple(primed)
        return (*variables_to(self.development, self.level), *self.deed[2], *primed)

    def bare_hyps(self):
        """Those without the ones of from."""
        return () if self.is_start() else (*_hyps_to(self.development, self.level), *self.deed[3])

    def hyps_of_from(self):
        return [("in", ("var", _primed(name)), some) for word, name, some in self.deed[4] if word == "from"]

    def picks(self):
        params = () if self.above is None else self.above[2]
        return [("picks", name, _within_num(self.helps[name], kind[1])) for name, kind in params
                if name in self.helps and kind[0] == "num"]

    def guards(self):
        guards = () if self.above is None else self.above[3]
        return [("guard", number, self.as_helped(guard)) for number, guard in enumerate(guards)]

    def does_and_helps(self):
        wishes = []
        for word, name, expression in self.actions_above():
            what = "same" if word == "be" else "in"
            if name in self.kept:
                wishes.append(("does", name, (what, self.told_after(name), self.as_helped(expression))))
            elif word == "from":
                wishes.append(("helps", name, ("in", self.helps[name], self.as_helped(expression))))
        return wishes

    def keeps(self):
        given_above = [action[1] for action in self.actions_above()]
        return [("keeps", name, ("same", self.told_after(name), ("var", name))) for _, name, _ in self.deed[4]
                if name in self.kept and name not in given_above]

    def fits_and_has(self):
        wishes = []
        for word, name, expression in self.deed[4]:
            kind = self.kinds[name]
            if word == "from":
                wishes.append(("has", name, ("less", ("num", 0), ("count", expression))))
            elif kind[0] == "num":
                wishes.append(("fits", name, _within_num(expression, kind[1])))
            elif kind[0] == "map" and kind[2][0] == "num":
                inner = _within_num(("at", expression, ("var", _primed(name))), kind[2][1])
                wishes.append(("fits", name, ("each", _primed(name), ("one", kind[1]), inner)))
        return wishes

    def stays(self):
        return [("stays", label, put_in(expression, self.after)) for label, expression in self.model[2]]

    def less(self):
        variant = self.model[5]
        if variant is None or self.above is not None:
            return []
        after = put_in(variant, self.after)
        return [("less", None, ("and", ("less", after, variant), ("most", ("num", 0), after)))]
