"""How what is written is read, line by line."""

from stairwright.codes import is_order
from stairwright.errors import BadText
from stairwright.expressions import BINDING, FIXED, HANGING
from stairwright.limits import MOST_DEEP, MOST_PARTS, MOST_WRITTEN
from stairwright.types import FIGURES, has_set, is_name, is_small, is_type
from stairwright.writing import (action_line, deed_line, help_line, keeps_line, model_line, param_line, set_line,
                                 var_line, variant_line, when_line, written_expression, written_order)

MOST_NUMBER_FIGURES = 4000


def number_of(text):
    """The number of that many figures at most, or None; a nought may be ahead."""
    if not 1 <= len(text) <= MOST_NUMBER_FIGURES or not all([sign in FIGURES for sign in text]):
        return None
    return int(text)


class Words:
    """The going through the text of one EXPRESSION or TYPE in a line, word by word."""

    def __init__(self, carriers, text, line):
        self.carriers = carriers
        self.text = text
        self.line = line
        self.words = text.replace("(", "( ").replace(")", " )").split(" ")
        self.place = 0
        self.many = 0

    def refuse(self):
        raise BadText(self.line)

    def take(self):
        """The next word."""
        if self.place >= len(self.words):
            self.refuse()
        self.place += 1
        return self.words[self.place - 1]

    def take_name(self):
        name = self.take()
        if not is_name(name):
            self.refuse()
        return name

    def take_set(self):
        name = self.take()
        if not has_set(self.carriers, name):
            self.refuse()
        return name

    def whole_expression(self):
        """The EXPRESSION, which has to be written just so."""
        found = self.take_expression(1)
        if written_expression(found) != self.text:
            self.refuse()
        return found

    def first_type(self, is_kind):
        """The TYPE of that kind that the text begins with."""
        found = self.take_type()
        if not is_kind(self.carriers, found):
            self.refuse()
        return found

    def take_type(self):
        word = self.take()
        if word == "some":
            return (word, self.take_set())
        if word == "map":
            return (word, self.take_set(), self.take_small(self.take()))
        return self.take_small(word)

    def take_small(self, word):
        if word == "num":
            return (word, number_of(self.take()))
        return (word, self.take_set()) if word == "one" else (word,)

    def take_expression(self, deep):
        self.many += 1
        if deep > MOST_DEEP or self.many > MOST_PARTS:
            self.refuse()
        word = self.take()
        if word != "(":
            return self.bare_expression(word)
        found = self.parts_of(self.take(), deep)
        if self.take() != ")":
            self.refuse()
        return found

    def bare_expression(self, word):
        if word in ("yes", "no"):
            return (word,)
        if is_name(word):
            is_member = any([word in members for _, members in self.carriers])
            return ("elem" if is_member else "var", word)
        number = number_of(word)
        if number is None or number > MOST_WRITTEN:
            self.refuse()
        return ("num", number)

    def parts_of(self, word, deep):
        if word in ("none", "every"):
            return (word, self.take_set())
        if word == "all":
            return (word, self.take_set(), self.take_expression(deep + 1))
        if word in BINDING:
            name = self.take_name()
            kind = self.take_small(self.take())
            if not is_small(self.carriers, kind):
                self.refuse()
            return (word, name, kind, self.take_expression(deep + 1))
        many = len(FIXED[word]) - 1 if word in FIXED else HANGING.get(word)
        if many is None:
            self.refuse()
        found = [word]
        for _ in range(many):
            found.append(self.take_expression(deep + 1))
        return tuple(found)


class Line:
    """One line by itself: its kind, and what stands in it."""

    def __init__(self, carriers, text, number):
        self.carriers = carriers
        self.text = text
        self.number = number
        if text.startswith("  "):
            self.kind, self.parts, written = self.read_inner(text[2:])
        else:
            self.kind, self.parts, written = self.read_outer()
        # What reads the parts lets more by than what is written just so.
        if written != text:
            self.refuse()

    def refuse(self):
        raise BadText(self.number)

    def expression(self, text):
        return Words(self.carriers, text, self.number).whole_expression()

    def read_outer(self):
        """(kind, what stands in it, how that is written) of a line without blanks ahead."""
        word, _, rest = self.text.partition(" ")
        if self.text in ("", "start"):
            return (self.text, (), self.text)
        if word == "variant:":
            part = self.expression(rest)
            return ("variant", part, variant_line(part))
        if word == "model":
            self.need_names([rest])
            return (word, rest, model_line(rest))
        if word == "deed":
            name, does, above = rest.partition(" does ")
            self.need_names([name] if does == "" else [name, above])
            row = (name, None if does == "" else above)
            return (word, row, deed_line(*row))
        return self.read_named(word, rest)

    def read_named(self, word, rest):
        name, _, told = rest.partition(": ")
        self.need_names([name])
        if word == "set":
            row = (name, tuple(told.split(" ")))
            self.need_names(row[1])
            return (word, row, set_line(*row))
        if word == "var":
            row = (name, Words(self.carriers, told, self.number).first_type(is_type))
            return (word, row, var_line(*row))
        if word != "keeps":
            self.refuse()
        row = (name, self.expression(told))
        return (word, row, keeps_line(*row))

    def read_inner(self, text):
        """Likewise of a line behind its two blanks."""
        word, _, rest = text.partition(" ")
        for sign, action in ((":= ", "be"), ("from ", "from")):
            if rest.startswith(sign):
                self.need_names([word])
                row = (action, word, self.expression(rest[len(sign):]))
                return ("action", row, action_line(*row))
        if word == "when":
            part = self.expression(rest)
            return (word, part, when_line(part))
        name, _, told = rest.partition(": ")
        self.need_names([name])
        if word == "param":
            row = (name, Words(self.carriers, told, self.number).first_type(is_small))
            return (word, row, param_line(*row))
        if word != "help":
            self.refuse()
        row = (name, self.expression(told))
        return (word, row, help_line(*row))

    def need_names(self, names):
        if not all([is_name(name) for name in names]):
            self.refuse()


def order_of(text, line):
    """The ORDER of a line by itself; BadText."""
    word, *figures = text.split(" ")
    numbers = []
    for part in figures:
        number = number_of(part[1:] if part.startswith("-") else part)
        if number is None:
            raise BadText(line)
        numbers.append(-number if part.startswith("-") else number)
    order = (word, *numbers)
    if not is_order(order, None) or written_order(order) != text:
        raise BadText(line)
    return order
