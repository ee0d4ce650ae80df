"""Expressions, models, developments and codes as texts."""

from stairwright.building import Building, Lines
from stairwright.codes import is_code
from stairwright.errors import BadText
from stairwright.models import is_development
from stairwright.reading import Line, Words, order_of
from stairwright.writing import development_lines, model_lines, written_expression, written_order


def expression_text(expression):
    """An EXPRESSION, one of a GOAL, too, as it's written."""
    return written_expression(expression)


def model_text(model):
    """A MODEL as it's written."""
    return "\n".join(model_lines(model))


def development_text(development):
    """A DEVELOPMENT as it's written."""
    return "\n".join(development_lines(development))


def code_text(code):
    """A CODE as it's written."""
    return "\n".join([written_order(order) for order in code])


def read_expression(carriers, text):
    """The EXPRESSION that is written so, whatever its SORTS; BadText."""
    _need_text(text)
    return Words(carriers, text, 1).whole_expression()


def read_model(carriers, text):
    """The MODEL that is written so, wherever it may stand; BadText."""
    _need_text(text)
    lines = text.split("\n")
    first = Line(carriers, lines[0], 1)
    if first.kind != "model":
        raise BadText(1)
    building = Building(first.parts)
    for number, row in enumerate(lines[1:], 2):
        line = Line(carriers, row, number)
        if not building.may_take(line.kind):
            raise BadText(number)
        building.take(line.kind, line.parts)
    model = building.told()
    if model is None:
        raise BadText(len(lines))
    return model


def read_development(text):
    """The DEVELOPMENT that is written so; BadText."""
    _need_text(text)
    rows = text.split("\n")
    lines = Lines()
    for number, row in enumerate(rows, 1):
        if row == "" and number == len(rows):
            raise BadText(number)
        lines.take(row, number)
    development = lines.told()
    if not is_development(development):
        raise BadText(len(rows))
    return development


def read_code(text):
    """The CODE that is written so; BadText."""
    _need_text(text)
    rows = text.split("\n")
    code = tuple([order_of(row, number) for number, row in enumerate(rows, 1)])
    if not is_code(code):
        raise BadText(len(rows))
    return code


def _need_text(thing):
    if not isinstance(thing, str):
        raise BadText(None)
