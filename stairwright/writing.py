"""How expressions, models and orders are written."""

from stairwright.expressions import first_part


def written_type(kind):
    """A TYPE, or a SMALL one: its words with blanks between."""
    return " ".join([written_type(part) if isinstance(part, tuple) else str(part) for part in kind])


def written_expression(expression):
    word = expression[0]
    if word in ("num", "elem", "var"):
        return str(expression[1])
    if word in ("yes", "no"):
        return word
    first = first_part(expression)
    words = [written_type(part) if isinstance(part, tuple) else part for part in expression[:first]]
    for part in expression[first:]:
        words.append(written_expression(part))
    return "(" + " ".join(words) + ")"


def written_order(order):
    return " ".join([str(part) for part in order])


def set_line(name, members):
    return f"set {name}: {' '.join(members)}"


def model_line(name):
    return f"model {name}"


def var_line(name, kind):
    return f"var {name}: {written_type(kind)}"


def keeps_line(label, expression):
    return f"keeps {label}: {written_expression(expression)}"


def deed_line(name, above):
    return f"deed {name}" if above is None else f"deed {name} does {above}"


def variant_line(expression):
    return f"variant: {written_expression(expression)}"


def param_line(name, kind):
    return f"  param {name}: {written_type(kind)}"


def when_line(guard):
    return f"  when {written_expression(guard)}"


def action_line(word, name, expression):
    sign = ":=" if word == "be" else "from"
    return f"  {name} {sign} {written_expression(expression)}"


def help_line(name, expression):
    return f"  help {name}: {written_expression(expression)}"


def model_lines(model):
    """A list of the lines of a MODEL."""
    name, variables, invariants, (actions, helps), deeds, variant = model
    lines = [model_line(name)]
    lines.extend([var_line(*row) for row in variables])
    lines.extend([keeps_line(*row) for row in invariants])
    lines.append("start")
    lines.extend([action_line(*row) for row in actions])
    lines.extend([help_line(*row) for row in helps])
    for deed in deeds:
        lines.extend(_deed_lines(deed))
    if variant is not None:
        lines.append(variant_line(variant))
    return lines


def _deed_lines(deed):
    name, above, params, guards, actions, helps = deed
    lines = [deed_line(name, above)]
    lines.extend([param_line(*row) for row in params])
    lines.extend([when_line(guard) for guard in guards])
    lines.extend([action_line(*row) for row in actions])
    lines.extend([help_line(*row) for row in helps])
    return lines


def development_lines(development):
    """A list of the lines of a DEVELOPMENT, an empty one ahead of each MODEL that isn't the first line."""
    carriers, models = development
    lines = [set_line(*row) for row in carriers]
    for model in models:
        if len(lines) > 0:
            lines.append("")
        lines.extend(model_lines(model))
    return lines
