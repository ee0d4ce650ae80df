"""A desk: a book that is asked, and answers, by lines of text."""

from stairwright.book import Book
from stairwright.codes import made_code
from stairwright.ends import last_states, upheld
from stairwright.errors import BadChange, BadGoal, BadModel, BadRun, BadText, Broken, NoGoal, NotMade, TooGreat
from stairwright.machine import run_of
from stairwright.papercheck import check_paper
from stairwright.papers import break_of
from stairwright.texts import expression_text, read_development, read_model
from stairwright.types import FIGURES, is_name

MOST_MARKS = 50
BEHIND = " ; "
NO_LINE = "no line"


def _id_text(which):
    """An ID: four words."""
    return " ".join(["none" if part is None else str(part) for part in which])


def _ids_text(ids):
    return "none" if len(ids) == 0 else ", ".join([_id_text(which) for which in ids])


def _value_text(value):
    if isinstance(value, bool):
        return "yes" if value else "no"
    if isinstance(value, tuple):
        return "[" + ",".join([_value_text(part) for part in value]) + "]"
    return str(value)


def _state_text(names, state):
    return " ".join([f"{name}={_value_text(state[name])}" for name, _ in names])


def _number_in(word):
    """The number of one to four figures without a nought ahead, None of another word."""
    if not 1 <= len(word) <= 4 or not all([sign in FIGURES for sign in word]):
        return None
    return None if len(word) > 1 and word[0] == "0" else int(word)


def _marks_in(words):
    """N, None where there is none from 1 to 50."""
    marks = _number_in(words[1]) if len(words) == 2 else None
    return marks if marks is not None and 1 <= marks <= MOST_MARKS else None


def _is_id(words):
    if len(words) != 5 or _number_in(words[1]) is None or not is_name(words[2]) or not is_name(words[3]):
        return False
    return _number_in(words[4]) is not None or is_name(words[4])


def _goal_in(book, words):
    """The GOAL of an ID that is written so; NoGoal."""
    text = " ".join(words[1:])
    for goal in book.goals():
        if _id_text(goal[0]) == text:
            return goal
    raise NoGoal(text)


def _undo(book, words):
    return "done" if book.undo() else "nothing"


def _redo(book, words):
    return "done" if book.redo() else "nothing"


def _fewer(book, words):
    return _job(book, ("fewer",))


def _job(book, change):
    return _ids_text(book.job([change])[0])


def _goals(book, words):
    return f"{len(book)} {len(book.still_open())}"


def _all_open(book, words):
    return _ids_text(book.still_open())


def _tried(book, words):
    return str(len(book.try_all()))


def _show(book, words):
    return expression_text(_goal_in(book, words)[3])


def _paper(book, words):
    goal = _goal_in(book, words)
    paper = book.paper(goal[0])
    return "open" if paper is None else str(check_paper(book.development()[0], goal, paper))


def _broken_by(book, words):
    goal = _goal_in(book, words)
    state = break_of(book.development()[0], goal)
    if state is None:
        return "none"
    return "any" if len(state) == 0 else _state_text(goal[1], state)


def _run(book, words):
    development = book.development()
    (_, steps), stopped = run_of(development, made_code(development), marks=int(words[1]))
    found = ["start"] + [name for name, _, _ in steps]
    return " ".join(found + ["stop"] if stopped else found)


def _account(book, words):
    development = book.development()
    _, account, _ = upheld(development, marks=int(words[1]))
    told = [_state_text(model[1], state) for model, state in zip(development[1], last_states(account))]
    return " / ".join(told)


def _code(book, words):
    return str(len(made_code(book.development())))


def _log(book, words):
    entries = book.log()
    return "none" if len(entries) == 0 else " ".join([str(part) for part in entries[-1]])


ANSWERS = {"undo": _undo, "redo": _redo, "fewer": _fewer, "goals": _goals, "open": _all_open, "try": _tried,
           "show": _show, "paper": _paper, "break": _broken_by, "run": _run, "account": _account, "code": _code,
           "log": _log}


def _is_line(words, has_text):
    """Whether a line may be so, by its words ahead of the text."""
    word = words[0]
    if word in ("whole", "more"):
        return len(words) == 1 and has_text
    if word == "model":
        return len(words) == 2 and _number_in(words[1]) is not None and has_text
    if has_text or word not in ANSWERS:
        return False
    if word in ("show", "paper", "break"):
        return _is_id(words)
    return _marks_in(words) is not None if word in ("run", "account") else len(words) == 1


class Desk:
    """It has a BOOK, none at first."""

    def __init__(self):
        self._book = None

    def say(self, line):
        """The answer to a line, of anything."""
        if not isinstance(line, str) or "\n" in line:
            return NO_LINE
        head, sign, text = line.partition(BEHIND)
        words = head.split(" ")
        if not _is_line(words, sign != ""):
            return NO_LINE
        if self._book is None and words[0] != "whole":
            return "no book"
        try:
            return self._answer(words, text.replace(BEHIND, "\n"))
        except BadText as unread:
            return f"badtext {unread.line}"
        except Broken as broken:
            step = "none" if broken.step is None else broken.step
            return f"broken {step} {_id_text(broken.goal)}"
        except BadModel:
            return "badmodel"
        except BadChange:
            return "badchange"
        except BadRun:
            return "badrun"
        except NotMade:
            return "notmade"
        except BadGoal:
            return "badgoal"
        except NoGoal:
            return "nogoal"
        except TooGreat:
            return "toogreat"

    def _answer(self, words, text):
        word = words[0]
        if word == "whole":
            return self._answer_to_whole(read_development(text))
        if word in ("model", "more"):
            model = read_model(self._book.development()[0], text)
            return _job(self._book, ("more", model) if word == "more" else ("model", int(words[1]), model))
        answer = ANSWERS[word]
        return answer(self._book, words)

    def _answer_to_whole(self, development):
        if self._book is not None:
            return _job(self._book, ("whole", development))
        self._book = Book(development)
        return _all_open(self._book, [])
