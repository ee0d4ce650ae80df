"""What a model has to be besides its form: by itself, and by those above it."""

from stairwright.expressions import bound_in, is_of, sort_of_type
from stairwright.forms import first_things, has_form
from stairwright.types import carrier_names


def expressions_of(model):
    """A list of all EXPRESSIONS of a MODEL."""
    _, _, invariants, (actions, helps), deeds, variant = model
    found = [row[1] for row in invariants] + [action[2] for action in actions] + [row[1] for row in helps]
    for _, _, _, guards, deed_actions, deed_helps in deeds:
        found.extend(guards)
        found.extend([action[2] for action in deed_actions])
        found.extend([row[1] for row in deed_helps])
    return found if variant is None else found + [variant]


def variable_names(models):
    return [name for model in models for name, _ in model[1]]


def param_names(models):
    return [name for model in models for deed in model[4] for name, _ in deed[2]]


def bound_names(models):
    return [name for model in models for expression in expressions_of(model) for name in bound_in(expression)]


def kept_names(model, above):
    """A list of the NAMES of the VARIABLES that are KEPT, of the MODEL ABOVE or None."""
    return [] if above is None else [name for name, kind in model[1] if (name, kind) in above[1]]


def deed_called(model, name):
    """The DEED of that NAME, or None."""
    for deed in model[4]:
        if deed[0] == name:
            return deed
    return None


def helped(variables, kept, own, params, actions):
    """A list of (NAME, TYPE) of all for which HELPS are: of those PARAMS that aren't one's own, and of those
    VARIABLES that aren't KEPT and that an ACTION from gives."""
    given = [action[1] for action in actions if action[0] == "from" and action[1] not in kept]
    missing = [(name, kind) for name, kind in params if name not in first_things(own)]
    return missing + [(name, kind) for name, kind in variables if name in given]


def fault_of(carriers, models, level):
    """(WHAT, N) of the first thing that isn't so in the MODEL of that LEVEL, those ABOVE it being good; or None."""
    model = models[level]
    if not has_form(carriers, model) or model[0] in first_things(models[:level]):
        return ("form", None)
    look = Level(carriers, models, level)
    number = look.bad_variable()
    if number is not None:
        return ("variable", number)
    number = look.bad_invariant()
    if number is not None:
        return ("invariant", number)
    if not look.has_good_start():
        return ("start", None)
    number = look.bad_deed()
    if number is not None:
        return ("deed", number)
    return None if look.has_good_variant() else ("variant", None)


class Level:
    """A MODEL that has its form, and what those ABOVE it say of it."""

    def __init__(self, carriers, models, level):
        above = models[:level]
        down_to = models[:level + 1]
        self.carriers = carriers
        self.model = models[level]
        self.above = models[level - 1] if level > 0 else None
        self.kept = kept_names(self.model, self.above)
        self.own_context = dict(self.model[1])
        self.context = {**dict(self.above[1]), **self.own_context} if level > 0 else self.own_context
        self.not_variables = variable_names(above) + param_names(above) + bound_names(above) + carrier_names(carriers)
        self.not_params = variable_names(down_to) + bound_names(above) + carrier_names(carriers)
        self.not_bound = variable_names(down_to) + param_names(down_to)

    def bad_variable(self):
        """The number of the first VARIABLE that isn't so, or None."""
        for number, name in enumerate(first_things(self.model[1])):
            if name not in self.kept and name in self.not_variables:
                return number
        return None

    def bad_invariant(self):
        for number, (_, expression) in enumerate(self.model[2]):
            if not self.fits(self.context, expression, "truth"):
                return number
        return None

    def has_good_start(self):
        actions, helps = self.model[3]
        wanted = [] if self.above is None else helped(self.above[1], self.kept, (), (), self.above[3][0])
        return self.has_good_actions({}, actions) and self.has_good_helps({}, helps, wanted)

    def bad_deed(self):
        for number, deed in enumerate(self.model[4]):
            if not self.is_good_deed(deed):
                return number
        return None

    def has_good_variant(self):
        variant = self.model[5]
        if variant is None:
            return True
        return self.above is not None and self.fits(self.own_context, variant, "num")

    def is_good_deed(self, deed):
        _, above_name, params, guards, actions, helps = deed
        wanted = []
        if above_name is not None:
            above_deed = None if self.above is None else deed_called(self.above, above_name)
            if above_deed is None or not _are_typed_alike(params, above_deed[2]):
                return False
            wanted = helped(self.above[1], self.kept, params, above_deed[2], above_deed[4])
        for name in first_things(params):
            if name in self.not_params:
                return False
        context = {**self.own_context, **dict(params)}
        for guard in guards:
            if not self.fits(context, guard, "truth"):
                return False
        both_contexts = {**self.context, **dict(params)}
        return self.has_good_actions(context, actions) and self.has_good_helps(both_contexts, helps, wanted)

    def has_good_actions(self, context, actions):
        for word, name, expression in actions:
            kind = self.own_context[name]
            if word == "from" and kind[0] != "one":
                return False
            sort = ("some", kind[1]) if word == "from" else sort_of_type(kind)
            if not self.fits(context, expression, sort):
                return False
        return True

    def has_good_helps(self, context, helps, wanted):
        if first_things(helps) != first_things(wanted):
            return False
        for (_, expression), (_, kind) in zip(helps, wanted):
            if not self.fits(context, expression, sort_of_type(kind)):
                return False
        return True

    def fits(self, context, expression, sort):
        """Whether it has that SORT there, and no NAME of each and any that is a VARIABLE's or a PARAM's."""
        if not is_of(self.carriers, context, expression, sort):
            return False
        return not any([name in self.not_bound for name in bound_in(expression)])


def _are_typed_alike(params, others):
    """Whether PARAMS of one NAME have one TYPE."""
    kinds = dict(others)
    return all([kinds.get(name, kind) == kind for name, kind in params])
