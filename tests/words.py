"""Short ways to write EXPRESSIONS."""


def num(number):
    return ("num", number)


def var(name):
    return ("var", name)


def elem(name):
    return ("elem", name)


def is_at(table, member, thing):
    return ("same", ("at", table, member), thing)


def joined(word, first, *others):
    """Joined by the word from the left."""
    for other in others:
        first = (word, first, other)
    return first


def nested(word, inner, many):
    """("not", ("not", .. inner)), so many of them."""
    for _ in range(many):
        inner = (word, inner)
    return inner


YES = ("yes",)
NO = ("no",)
