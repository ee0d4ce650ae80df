"""The check of papers and breaks: it takes nothing from what finds them."""

from stairwright.errors import BadPaper
from stairwright.forms import is_tuple_of
from stairwright.papers import need_goal
from stairwright.states import is_state
from stairwright.tellers import Tellers
from stairwright.types import is_whole, values_of, word_of
from stairwright.worths import worth


def check_paper(carriers, goal, paper):
    """How many splits a PAPER of the GOAL has; BadCarriers, BadGoal, BadPaper."""
    need_goal(carriers, goal)
    check = Check(carriers, goal)
    many = 0
    # A list and no recursion: a PAPER may be as deep as there are CELLS.
    waiting = [(0, None, None, paper)]
    while len(waiting) > 0:
        deep, place, value, part = waiting.pop()
        check.go_to(deep, place, value)
        if word_of(part) == "split":
            many += 1
            waiting.extend(check.parts_of(part))
        elif not check.is_end(part):
            raise BadPaper("no paper of the goal")
    return many


def check_break(carriers, goal, state):
    """Whether it's a BREAK of the GOAL; BadCarriers, BadGoal."""
    need_goal(carriers, goal)
    _, names, hyps, wish = goal
    if not is_state(carriers, names, state):
        return False
    for hyp in hyps:
        if not worth(carriers, hyp, state):
            return False
    return not worth(carriers, wish, state)


class Check:
    """What is known at the place of a PAPER that is looked at."""

    def __init__(self, carriers, goal):
        _, names, hyps, wish = goal
        tellers = Tellers(carriers, dict(names), None)
        self.wish = tellers.teller(wish)
        self.hyps = [tellers.teller(hyp) for hyp in hyps]
        self.places = tellers.places
        self.values_at = [values_of(carriers, kind) for _, kind in tellers.cells]
        self.known = tellers.nothing_known()
        self.path = []

    def go_to(self, deep, place, value):
        """To where, behind so many splits, the CELL of that place has that VALUE."""
        while len(self.path) > deep:
            self.known[self.path.pop()] = None
        if place is not None:
            self.known[place] = value
            self.path.append(place)

    def parts_of(self, part):
        """The PAPERS of a split, the last one first, each with where it stands."""
        place = self.place_of(part[1]) if is_tuple_of(part, 3, 3) else None
        if place is None or self.known[place] is not None:
            raise BadPaper("a split, but of no cell that isn't known yet")
        values = self.values_at[place]
        if not is_tuple_of(part[2], len(values), len(values)):
            raise BadPaper("a split, but without a paper for each value")
        deep = len(self.path)
        return [(deep, place, value, inner) for value, inner in reversed(list(zip(values, part[2])))]

    def place_of(self, thing):
        """The place of a CELL, None of anything else."""
        if not is_tuple_of(thing, 2, 2) or not isinstance(thing[0], str):
            return None
        if thing[1] is not None and not isinstance(thing[1], str):
            return None
        return self.places.get(thing)

    def is_end(self, part):
        """Whether it's a PAPER without a split there."""
        word = word_of(part)
        if word == "so":
            tell = self.wish
            return len(part) == 1 and tell(self.known) is True
        if word != "not" or len(part) != 2 or not is_whole(part[1]) or not 0 <= part[1] < len(self.hyps):
            return False
        tell = self.hyps[part[1]]
        return tell(self.known) is False
