"""The errors: each stands straight under one of three, and under no other one."""


# Far more than is handed in anywhere; but one thing may stand at many places of another one.
MOST_THINGS = 100000


def _own(thing):
    """A copy down to the last list and dict of it; the thing itself where that would take without end."""
    return _copy(thing) if _can_be_copied(thing) else thing


def _can_be_copied(thing):
    waiting = [thing]
    many = 0
    while len(waiting) > 0 and many <= MOST_THINGS:
        part = waiting.pop()
        many += 1
        if isinstance(part, (list, tuple)):
            waiting.extend(list(part))
        elif isinstance(part, dict):
            waiting.extend(list(part.values()))
    return many <= MOST_THINGS


def _copy(thing):
    if isinstance(thing, list):
        return [_copy(part) for part in thing]
    if isinstance(thing, tuple):
        return tuple([_copy(part) for part in thing])
    if isinstance(thing, dict):
        return {key: _copy(part) for key, part in thing.items()}
    return thing


class StairError(ValueError):
    """What is handed in isn't what it has to be."""


class BadCarriers(StairError):
    """No CARRIERS."""


class BadType(StairError):
    """No TYPE that may stand there."""


class BadExpression(StairError):
    """No EXPRESSION of the CONTEXT."""


class BadState(StairError):
    """No STATE of the MODEL."""


class BadGoal(StairError):
    """No GOAL."""


class BadPaper(StairError):
    """No PAPER of the GOAL."""


class BadRun(StairError):
    """No RUN of the MODEL."""


class BadCode(StairError):
    """No CODE."""


class NotMade(StairError):
    """A MODEL that isn't MADE: no CODE is made from it."""


class BadChange(StairError):
    """No CHANGE of the DEVELOPMENT."""


class BadModel(StairError):
    """No DEVELOPMENT, by the first place that isn't as it has to be."""

    def __init__(self, place):
        super().__init__(f"no development, at {place}")
        self.place = place


class BadText(StairError):
    """No text of what is read, by the number of the first line that isn't; None where it's no text at all."""

    def __init__(self, line):
        super().__init__(f"not written so, at line {line}")
        self.line = line


class Broken(StairError):
    """No ACCOUNT of a RUN: at the step the goal of that ID is broken."""

    def __init__(self, step, goal):
        super().__init__(f"step {step} breaks the goal {goal}")
        self.step = step
        self.goal = goal


class GreatError(OverflowError):
    """More than is done."""


class TooGreat(GreatError):
    """A number, a search or a CODE beyond its bound."""


class MissError(LookupError):
    """What is asked for isn't there."""


class NoGoal(MissError):
    """No GOAL has this ID."""

    def __init__(self, goal):
        super().__init__("there is no goal of this ID")
        # It may be of any kind, a list, too, whose later changes must not show here.
        self.goal = _own(goal)


class NoDeed(MissError):
    """No DEED is called so."""

    def __init__(self, deed):
        super().__init__("there is no deed of this name")
        # It may be of any kind, a list, too, whose later changes must not show here.
        self.deed = _own(deed)
