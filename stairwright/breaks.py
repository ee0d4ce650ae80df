"""The search for a run that breaks a goal."""

from stairwright.errors import Broken, NoGoal, TooGreat
from stairwright.goals import goal_of
from stairwright.leading import Stair, state_of_all
from stairwright.runs import following, starts

MOST_LOOKED_AT = 20000


def part_to(development, level):
    """The DEVELOPMENT without what is below that LEVEL."""
    carriers, models = development
    return (carriers, models[:level + 1])


def run_that_breaks(development, goal, *, most=6):
    """A RUN of least STEPS that BREAKS the GOAL of that ID, None where none of so many has; BadModel, NoGoal,
    TooGreat."""
    which, _, _, _ = goal_of(development, goal)
    level, deed, kind, _ = which
    if kind == "live" or deed == "start":
        raise NoGoal(goal)
    # A STEP by which these are broken would be none.
    if kind in ("fits", "has"):
        return None
    return Hunt(part_to(development, level), which).run_within(most)


class Hunt:
    """The going through all RUNS, those of fewer STEPS first."""

    def __init__(self, development, goal):
        self.carriers, models = development
        self.model = models[-1]
        self.goal = goal
        self.stair = Stair(development)
        # Of each STATE of all LEVELS that was met: that STATE, the number of the one ahead, and the STEP from there.
        self.met = []
        self.seen = {}

    def run_within(self, most):
        """The RUN of at most so many STEPS, or None."""
        self.begin()
        first = 0
        for _ in range(most):
            behind = len(self.met)
            for number in range(first, behind):
                step = self.breaking_step(number)
                if step is not None:
                    return self.run_to(number, step)
            first = behind
        return None

    def begin(self):
        for state in starts(self.carriers, self.model):
            try:
                row = self.stair.row_of_start(state)
            except Broken:
                continue
            self.meet(state_of_all(row), None, None)

    def breaking_step(self, number):
        """The STEP from there that breaks the GOAL, or None once all that follow are met."""
        ahead, _, _ = self.met[number]
        own = {name: ahead[name] for name, _ in self.model[1]}
        for step in following(self.carriers, self.model, own):
            try:
                row = self.stair.row_of(ahead, step, None)
            except Broken as broken:
                if broken.goal == self.goal:
                    return step
                continue
            self.meet(state_of_all(row), number, step)
        return None

    def meet(self, state, number, step):
        key = tuple([state[name] for name in sorted(list(state))])
        if key in self.seen:
            return
        self.seen[key] = True
        if len(self.seen) > MOST_LOOKED_AT:
            raise TooGreat("too many states were looked at")
        self.met.append((state, number, step))

    def run_to(self, number, step):
        """The RUN to the STATE of that number, and the STEP from there."""
        steps = [step]
        state, ahead, last = self.met[number]
        while ahead is not None:
            steps.append(last)
            state, ahead, last = self.met[ahead]
        steps.reverse()
        first = {name: state[name] for name, _ in self.model[1]}
        return (first, tuple(steps))
