"""The machine that does a code's orders, and the run that a code tells."""

from stairwright.codes import MOST_BOXES, is_code, need_made
from stairwright.errors import BadCode, BadRun, TooGreat
from stairwright.runs import is_run
from stairwright.states import value_of_cells
from stairwright.types import cells_of, values_of

MOST_DONE = 200000
MOST_FIGURES = 4000


def _add(one, other):
    return one + other


def _sub(one, other):
    return one - other


def _mul(one, other):
    return one * other


def _less(one, other):
    return 1 if one < other else 0


def _same(one, other):
    return 1 if one == other else 0


WAYS = {"add": _add, "sub": _sub, "mul": _mul, "less": _less, "same": _same}


class Machine:
    """It does a CODE's ORDERS one by one, till a mark is met or it stops."""

    def __init__(self, code):
        if not is_code(code):
            raise BadCode("no code: one to 5,000 orders")
        self._code = code
        self._numbers = [0] * MOST_BOXES
        self._place = 0
        self._many_done = 0
        self._is_stopped = False

    def to_mark(self):
        """K of the next mark, or None where it stopped; TooGreat."""
        while not self._is_stopped:
            if self._place >= len(self._code):
                self._is_stopped = True
                break
            if self._many_done >= MOST_DONE:
                raise TooGreat("too many orders were done")
            order = self._code[self._place]
            self._do(order)
            self._many_done += 1
            if order[0] == "mark":
                return order[1]
        return None

    def _do(self, order):
        """Does that ORDER, or nothing where it's too great."""
        word = order[0]
        if word in WAYS:
            way = WAYS[word]
            self._put(order[1], way(self._numbers[order[2]], self._numbers[order[3]]))
        elif word == "set":
            self._put(order[1], order[2])
        elif word == "copy":
            self._put(order[1], self._numbers[order[2]])
        elif word == "stop":
            self._is_stopped = True
        if word == "jump":
            self._place = order[1]
        elif word == "none" and self._numbers[order[1]] == 0:
            self._place = order[2]
        else:
            self._place += 1

    def _put(self, box, number):
        if number.bit_length() > MOST_FIGURES:
            raise TooGreat("a number of too many figures")
        self._numbers[box] = number

    def boxes(self, many):
        """A tuple of the numbers in the first so many boxes."""
        return tuple(self._numbers[:many])

    def done(self):
        """How many ORDERS were done."""
        return self._many_done

    def has_stopped(self):
        return self._is_stopped


def run_of(development, code, *, marks=20):
    """(RUN, stopped) of a CODE of the lowest MODEL to so many marks behind the first; BadModel, NotMade, BadCode,
    TooGreat, BadRun."""
    need_made(development)
    carriers, models = development
    model = models[-1]
    machine = Machine(code)
    if machine.to_mark() != 0:
        raise BadRun("the code doesn't mark its start first")
    first = _state_told(carriers, model, machine)
    steps = []
    stopped = False
    while len(steps) < marks and not stopped:
        mark = machine.to_mark()
        if mark is None:
            stopped = True
        else:
            steps.append((_deed_told(model, mark), (), _state_told(carriers, model, machine)))
    run = (first, tuple(steps))
    if not is_run(carriers, model, run):
        raise BadRun("the marks tell no run of the lowest model")
    return (run, stopped)


def _deed_told(model, mark):
    """The NAME of the DEED of that mark."""
    if not 1 <= mark <= len(model[4]):
        raise BadRun("a mark of no deed of the lowest model")
    return model[4][mark - 1][0]


def _state_told(carriers, model, machine):
    """The STATE that the boxes tell."""
    cells = [row for name, kind in model[1] for row in cells_of(carriers, name, kind)]
    numbers = machine.boxes(len(cells))
    told = {}
    for (cell, small), number in zip(cells, numbers):
        worths = values_of(carriers, small)
        if not 0 <= number < len(worths):
            raise BadRun("a box of no value of its cell")
        told[cell] = worths[number]
    return {name: value_of_cells(carriers, name, kind, told) for name, kind in model[1]}
