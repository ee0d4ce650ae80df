"""How lines that are read become models: which of them may stand where, and what they make."""

from stairwright.errors import BadText
from stairwright.reading import Line

# The order in which they stand.
OUTER = {"model": 0, "var": 1, "keeps": 2, "start": 3, "deed": 4, "variant": 5}
INNER = {"param": 0, "when": 1, "action": 2, "help": 3}

# As many as there are of these; one of each other kind.
MANY_OUTER = ("var", "keeps", "deed")


class Body:
    """The START or a DEED, and its lines."""

    def __init__(self, name, above):
        self.name = name
        self.above = above
        self.last = 0
        self.rows = {"param": [], "when": [], "action": [], "help": []}

    def may_take(self, kind):
        if INNER[kind] < self.last:
            return False
        return self.name is not None or kind in ("action", "help")

    def take(self, kind, parts):
        self.last = INNER[kind]
        self.rows[kind].append(parts)

    def told(self):
        """The DEED; of the START as it stands in a MODEL."""
        rows = self.rows
        if self.name is None:
            return (tuple(rows["action"]), tuple(rows["help"]))
        return (self.name, self.above, tuple(rows["param"]), tuple(rows["when"]), tuple(rows["action"]),
                tuple(rows["help"]))


class Building:
    """A MODEL, from its first line on."""

    def __init__(self, name):
        self.name = name
        self.last = 0
        self.variables = []
        self.invariants = []
        self.start = None
        self.deeds = []
        self.variant = None
        self.body = None

    def may_take(self, kind):
        if kind in INNER:
            return self.body is not None and self.body.may_take(kind)
        if kind not in OUTER:
            return False
        return OUTER[kind] > self.last or (OUTER[kind] == self.last and kind in MANY_OUTER)

    def take(self, kind, parts):
        if kind in INNER:
            self.body.take(kind, parts)
            return
        self.last = OUTER[kind]
        self.body = None
        if kind == "var":
            self.variables.append(parts)
        elif kind == "keeps":
            self.invariants.append(parts)
        elif kind == "variant":
            self.variant = parts
        elif kind == "start":
            self.start = Body(None, None)
            self.body = self.start
        else:
            name, above = parts
            self.body = Body(name, above)
            self.deeds.append(self.body)

    def told(self):
        """The MODEL, or None where the start is missing."""
        if self.start is None:
            return None
        deeds = tuple([deed.told() for deed in self.deeds])
        return (self.name, tuple(self.variables), tuple(self.invariants), self.start.told(), deeds, self.variant)


class Lines:
    """The lines of a DEVELOPMENT, one behind the other."""

    def __init__(self):
        self.carriers = []
        self.models = []
        self.last_kind = None

    def take(self, text, number):
        """The next line; BadText where it isn't written so, or may not stand there."""
        line = Line(tuple(self.carriers), text, number)
        kind = line.kind
        if not self.may_take(kind):
            raise BadText(number)
        if kind == "set":
            self.carriers.append(line.parts)
        elif kind == "model":
            self.models.append(Building(line.parts))
        elif kind != "":
            self.models[-1].take(kind, line.parts)
        self.last_kind = kind

    def may_take(self, kind):
        if kind == "model":
            return self.last_kind is None or self.last_kind == ""
        if self.last_kind == "":
            return False
        if kind == "":
            return self.last_kind is not None
        if kind == "set":
            return len(self.models) == 0
        return len(self.models) > 0 and self.models[-1].may_take(kind)

    def told(self):
        """What may be a DEVELOPMENT, or None where a start is missing."""
        models = tuple([model.told() for model in self.models])
        return None if None in models else (tuple(self.carriers), models)
