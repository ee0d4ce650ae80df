"""The search for a break of a goal: where each way to one is shut, what shuts them is its paper.

A BREAK makes all tests True: that the WISH isn't, and each HYP. CELLS are split one by one, all VALUES in turn, till
a test is False or all are True. A VALUE by which a test alone is False is shut ahead, so that CELLS are split first of
which few VALUES are open. What a PAPER rests on, the CELLS that were looked at, is kept as a number, a binary figure
for each: a split on whose CELL the PAPER of one VALUE doesn't rest is that PAPER itself.
"""

from stairwright.states import value_of_cells
from stairwright.tellers import Tellers, not_told
from stairwright.types import values_of

# A hundred times how many binary figures tell one of so many.
FIGURES_OF = (0, 0, 100, 158, 200, 232, 258, 281, 300, 317, 332, 346, 358, 370, 381, 391, 400)

# To shut values ahead by a test that looks at more would take longer than the splits that are spared.
MOST_LOOKS = 5000


class Split:
    """A CELL that is split, and what has come of its VALUES so far."""

    def __init__(self, place, waiting, mark):
        self.place = place
        self.waiting = waiting
        self.mark = mark
        self.papers = []
        self.rests_on = 0
        self.instead = None

    def take(self, paper, rests_on):
        self.papers.append(paper)
        self.rests_on = self.rests_on | rests_on


class Search:
    """The going through the STATES of a good GOAL, with at most so many splits."""

    def __init__(self, carriers, goal, by_wish, most):
        """by_wish: the CELLS that the WISH asks are split first; else, all in the order of NAMES."""
        _, names, hyps, wish = goal
        self.carriers = carriers
        self.typed_names = names
        self.by_wish = by_wish
        self.most = most
        self.reads = []
        tellers = Tellers(carriers, dict(names), self.reads)
        self.tests = [not_told(tellers.teller(wish))] + [tellers.teller(hyp) for hyp in hyps]
        self.ends = [("so",)] + [("not", number) for number in range(len(hyps))]
        self.cells = [cell for cell, _ in tellers.cells]
        self.worths_at = [values_of(carriers, kind) for _, kind in tellers.cells]
        self.known = tellers.nothing_known()
        # By CELL and number of the VALUE what shuts it, and in which order they were shut.
        self.shut = [{} for _ in self.cells]
        self.trail = []
        # Those tests that aren't told, with the CELLS that they asked in vain.
        self.waiting = []
        self.splits = []
        self.many = 0
        self.told_paper = None

    def has_ended(self):
        """Goes on till there is a PAPER, or all tests are True by what is known; False of too many splits."""
        done = self.entered([(number, {}) for number in range(len(self.tests))], None)
        while done is not None or len(self.waiting) > 0:
            if done is None:
                self.many += 1
                if self.many > self.most:
                    return False
                self.splits.append(Split(self.chosen(), self.waiting, len(self.trail)))
            elif len(self.splits) == 0:
                self.told_paper = done[0]
                return True
            else:
                self.leave_value(done)
            done = self.next_value()
        return True

    def leave_value(self, done):
        """Back to the last split, where one of its VALUES has come to that PAPER."""
        split = self.splits[-1]
        self.known[split.place] = None
        while len(self.trail) > split.mark:
            place, number = self.trail.pop()
            del self.shut[place][number]
        paper, rests_on = done
        if (rests_on >> split.place) & 1:
            split.take(paper, rests_on)
        else:
            split.instead = done

    def next_value(self):
        """What the next VALUE of the last split comes to at once, or None; or what the whole split has come to."""
        split = self.splits[-1]
        place = split.place
        worths = self.worths_at[place]
        while split.instead is None and len(split.papers) < len(worths):
            number = len(split.papers)
            if number not in self.shut[place]:
                self.known[place] = worths[number]
                return self.entered(split.waiting, place)
            paper, rests_on = self.shut[place][number]
            split.take(paper, rests_on)
        self.splits.pop()
        if split.instead is not None:
            return split.instead
        rests_on = split.rests_on & ~(1 << place)
        return (("split", self.cells[place], tuple(split.papers)), rests_on)

    def entered(self, waiting, place):
        """What shuts the way now that the CELL of that place is known, or None."""
        still = []
        moved = []
        for number, asked in waiting:
            if place is not None and place not in asked:
                still.append((number, asked))
            else:
                told, asked_now = self.told_by(number)
                if told is False:
                    return (self.ends[number], self.known_reads())
                if told is None:
                    still.append((number, asked_now))
                    moved.append((number, asked_now, len(self.reads)))
        self.waiting = still
        for number, asked, looks in moved:
            self.shut_values(number, asked, looks)
        return None

    def told_by(self, number):
        """What a test tells, and the CELLS that it asked in vain."""
        self.reads.clear()
        test = self.tests[number]
        told = test(self.known)
        return (told, {place: True for place in self.reads if self.known[place] is None})

    def known_reads(self):
        """The CELLS that the last test looked at and that are known."""
        rests_on = 0
        for place in self.reads:
            if self.known[place] is not None:
                rests_on = rests_on | (1 << place)
        return rests_on

    def shut_values(self, number, asked, looks):
        """Shuts all VALUES of those CELLS by which the test is False."""
        if looks * sum([len(self.worths_at[place]) for place in asked]) > MOST_LOOKS:
            return
        test = self.tests[number]
        for place in asked:
            for at, value in enumerate(self.worths_at[place]):
                if at not in self.shut[place]:
                    self.known[place] = value
                    self.reads.clear()
                    if test(self.known) is False:
                        self.shut[place][at] = (self.ends[number], self.known_reads())
                        self.trail.append((place, at))
            self.known[place] = None

    def chosen(self):
        """The place of the CELL to be split."""
        for _, asked in self.waiting:
            for place in asked:
                if self.how_many_open(place) <= 1:
                    return place
        asking = {}
        for _, asked in self.waiting:
            for place in asked:
                asking[place] = asking.get(place, 0) + 1
        if not self.by_wish:
            return min(list(asking))
        number, asked = self.waiting[0]
        places = asked if number == 0 else asking
        return min([self.rank(place, asking[place]) for place in places])[-1]

    def how_many_open(self, place):
        return len(self.worths_at[place]) - len(self.shut[place])

    def rank(self, place, many_ask):
        """Least of a CELL of which many VALUES are shut, and which many tests ask."""
        many = self.how_many_open(place)
        share = 100 * FIGURES_OF[many] // FIGURES_OF[len(self.worths_at[place])]
        return (share, -many_ask, many, place)

    def state(self):
        """A STATE that has what is known."""
        told = {}
        for cell, worths, fact in zip(self.cells, self.worths_at, self.known):
            told[cell] = worths[0] if fact is None else fact
        return {name: value_of_cells(self.carriers, name, kind, told) for name, kind in self.typed_names}
