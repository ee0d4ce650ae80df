"""A book: a development while it changes, and the papers of its goals."""

from stairwright.changes import changed_by
from stairwright.errors import BadChange, TooGreat
from stairwright.goals import goal_among, goals_of
from stairwright.papercheck import check_paper
from stairwright.papers import paper_of


def _view_of(development):
    """A DEVELOPMENT, its GOALS, and for each a text that only those with the same CARRIERS, NAMES, HYPS and WISH have;
    BadModel."""
    goals = goals_of(development)
    return (development, goals, [repr((development[0], goal[1:])) for goal in goals])


class Book:
    """A DEVELOPMENT, PAPERS of GOALS, and the JOBS that were done."""

    def __init__(self, development):
        self._view = _view_of(development)
        # By what _view_of tells of a GOAL.
        self._papers = {}
        # To search for these once more would take as long, and find nothing again.
        self._in_vain = {}
        self._log = []
        self._many_jobs = 0
        self._many_open = 0
        # Of each JOB its number, and the views ahead of it and behind.
        self._done_jobs = []
        self._undone_jobs = []

    def job(self, changes):
        """Does all of a list of CHANGES, or none: for each of them a tuple of the IDS that it asks anew; BadChange,
        NoDeed, BadModel."""
        if not isinstance(changes, list):
            raise BadChange("no job: a list of changes")
        number = self._many_jobs
        self._many_jobs += 1
        self._many_open += 1
        self._log.append(("open", number))
        view = self._view
        told = []
        many = 0
        try:
            for change in list(changes):
                ahead = self._open_keys(view)
                view = _view_of(changed_by(view[0], change))
                told.append(self._open_but(view, ahead))
                self._log.append(("did", change[0]))
                many += 1
        finally:
            self._log.append(("shut", number, many))
            self._many_open -= 1
        self._done_jobs.append((number, self._view, view))
        self._undone_jobs = []
        self._view = view
        return told

    def undo(self):
        """Undoes the last JOB that is done; False where there is none."""
        if len(self._done_jobs) == 0:
            return False
        number, ahead, behind = self._done_jobs.pop()
        self._undone_jobs.append((number, ahead, behind))
        self._view = ahead
        self._log.append(("undo", number))
        return True

    def redo(self):
        """Does the JOB once more that was undone last; False where there is none."""
        if len(self._undone_jobs) == 0:
            return False
        number, ahead, behind = self._undone_jobs.pop()
        self._done_jobs.append((number, ahead, behind))
        self._view = behind
        self._log.append(("redo", number))
        return True

    def development(self):
        return self._view[0]

    def goals(self):
        """A tuple of the GOALS."""
        return self._view[1]

    def still_open(self):
        """A tuple of the IDS of the GOALS without a PAPER."""
        return self._open_but(self._view, {})

    def _open_but(self, view, keys):
        """A tuple of the IDS of those without a PAPER that don't have these keys."""
        _, goals, own_keys = view
        return tuple([goal[0] for goal, key in zip(goals, own_keys) if key not in self._papers and key not in keys])

    def _open_keys(self, view):
        """A dict by the keys of those without a PAPER."""
        return {key: True for key in view[2] if key not in self._papers}

    def _key_of(self, goal):
        """The key of the GOAL of that ID; NoGoal."""
        _, goals, keys = self._view
        return keys[goals.index(goal_among(goals, goal))]

    def paper(self, goal):
        """The PAPER of the GOAL of that ID, or None; NoGoal."""
        return self._papers.get(self._key_of(goal))

    def show(self, goal, paper):
        """Lets the PAPER by as that of the GOAL of that ID; NoGoal, BadPaper."""
        development, goals, _ = self._view
        key = self._key_of(goal)
        check_paper(development[0], goal_among(goals, goal), paper)
        self._papers[key] = paper

    def try_all(self):
        """A tuple of the IDS of those that were OPEN and of which it finds a PAPER."""
        ahead = self.still_open()
        development, goals, keys = self._view
        for goal, key in zip(goals, keys):
            if key not in self._papers and key not in self._in_vain:
                paper = _paper_found(development[0], goal)
                if paper is None:
                    self._in_vain[key] = True
                else:
                    self._papers[key] = paper
        behind = self.still_open()
        return tuple([which for which in ahead if which not in behind])

    def log(self):
        """A list of what came of JOBS, undo and redo."""
        return list(self._log)

    def open_jobs(self):
        """How many JOBS were opened and aren't shut."""
        return self._many_open

    def copy(self):
        """Another BOOK with all that this one has."""
        other = Book(self._view[0])
        other._papers = {key: paper for key, paper in self._papers.items()}
        other._in_vain = {key: True for key in self._in_vain}
        other._log = list(self._log)
        other._many_jobs = self._many_jobs
        other._done_jobs = list(self._done_jobs)
        other._undone_jobs = list(self._undone_jobs)
        return other

    def __eq__(self, other):
        if not isinstance(other, Book):
            return False
        return self._view[0] == other._view[0] and self.still_open() == other.still_open()

    def __len__(self):
        return len(self._view[1])

    def __repr__(self):
        return f"Book({len(self._view[0][1])}, {len(self._view[1])}, {len(self.still_open())})"


def _paper_found(carriers, goal):
    """A PAPER, or None where there is none or it would take too long."""
    try:
        return paper_of(carriers, goal)
    except TooGreat:
        return None
