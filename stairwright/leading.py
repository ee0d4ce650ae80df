"""How a run is led up the stair: what each deed above does by a step below it, or which goal the step breaks."""

from stairwright.errors import Broken
from stairwright.forms import first_things
from stairwright.goals import doing_of
from stairwright.sights import Sight


class Lead:
    """A DEED of a LEVEL, or its START, and what the one ABOVE it does by its HELPS."""

    def __init__(self, carriers, doing, variables_above):
        """variables_above: of the MODEL ABOVE, none where no DEED is above."""
        self.sight = Sight(carriers, doing.names())
        self.param_names = first_things(doing.deed[2])
        self.given_by_from = [action[1] for action in doing.deed[4] if action[0] == "from"]
        self.wishes = [(goal[0], self.sight.ready(goal[3])) for goal in doing.goals()]
        self.name_above = None if doing.above is None else doing.above[0]
        params = () if doing.above is None else doing.above[2]
        self.worths_above = [(self.sight.ready(doing.picked(name)), kind) for name, kind in params]
        self.state_above = [(name, self.sight.ready(doing.told_after(name)), kind) for name, kind in variables_above]

    def go_to(self, ahead, worths, after):
        """To a STEP: the STATE of all LEVELS ahead of it, what the PARAMS are, and the STATE of its LEVEL behind."""
        state = {**ahead}
        for name, value in zip(self.param_names, worths):
            state[name] = value
        for name in self.given_by_from:
            state[f"{name}'"] = after[name]
        self.sight.go_to(state)

    def broken(self):
        """The ID of the first GOAL that is broken there, or None."""
        for which, tell in self.wishes:
            if not self.sight.worth_of(tell):
                return which
        return None

    def step_above(self):
        """What the DEED ABOVE does there."""
        worths = tuple([self.sight.value_of(tell, kind) for tell, kind in self.worths_above])
        state = {name: self.sight.value_of(tell, kind) for name, tell, kind in self.state_above}
        return (self.name_above, worths, state)


class Stair:
    """A good DEVELOPMENT, and how RUNS of its lowest MODEL are led."""

    def __init__(self, development):
        self.development = development
        self.lowest = len(development[1]) - 1
        self.leads = {}

    def row_of_start(self, state):
        """A ROW of the START by which the lowest MODEL comes to that STATE; Broken."""
        return self.row_of({}, ("start", (), state), None)

    def row_of(self, ahead, step, number):
        """The ROW of a STEP of that number, all LEVELS being at the STATE ahead; Broken."""
        found = [step]
        for level in range(self.lowest, -1, -1):
            name, worths, after = found[-1]
            above = None
            if name is not None:
                lead = self.lead_of(level, name)
                lead.go_to(ahead, worths, after)
                broken = lead.broken()
                if broken is not None:
                    raise Broken(number, broken)
                above = None if lead.name_above is None else lead.step_above()
            if level > 0:
                found.append(self.standing(level - 1, ahead) if above is None else above)
        found.reverse()
        return tuple(found)

    def standing(self, level, ahead):
        """What is in a ROW of a LEVEL where no DEED is done."""
        return (None, (), {name: ahead[name] for name, _ in self.development[1][level][1]})

    def lead_of(self, level, name):
        key = (level, name)
        if key not in self.leads:
            doing = doing_of(self.development, level, name)
            variables_above = () if doing.above is None else self.development[1][level - 1][1]
            self.leads[key] = Lead(self.development[0], doing, variables_above)
        return self.leads[key]


def state_of_all(row):
    """The STATE of all LEVELS behind a ROW: those of one NAME are the same."""
    found = {}
    for _, _, state in row:
        for name, value in state.items():
            found[name] = value
    return found
