"""What expressions tell at many states of the same names: each is made ready but once."""

from stairwright.tellers import Tellers
from stairwright.types import elements_of


class Sight:
    """EXPRESSIONS of one CONTEXT, and the STATE at which they're asked."""

    def __init__(self, carriers, names):
        self.carriers = carriers
        self.typed_names = names
        self.tellers = Tellers(carriers, dict(names), None)
        self.known = []

    def ready(self, expression):
        """What worth_of and value_of tell it by."""
        return self.tellers.teller(expression)

    def go_to(self, state):
        """To that STATE, which may have more NAMES."""
        if len(self.known) < self.tellers.many_places:
            self.known = self.tellers.nothing_known()
        place = 0
        for name, kind in self.typed_names:
            for fact in self.facts_of(kind, state[name]):
                self.known[place] = fact
                place += 1

    def facts_of(self, kind, value):
        """What the CELLS are, one by one."""
        if kind[0] == "some":
            return [member in value for member in elements_of(self.carriers, kind[1])]
        return value if kind[0] == "map" else (value,)

    def worth_of(self, tell):
        """The WORTH of a num, a truth or a one."""
        return tell(self.known)

    def value_of(self, tell, kind):
        """The WORTH of what has that TYPE's SORT."""
        if kind[0] == "some":
            return tuple([member for member, part in zip(elements_of(self.carriers, kind[1]), tell)
                          if part(self.known)])
        return tuple([part(self.known) for part in tell]) if kind[0] == "map" else tell(self.known)
