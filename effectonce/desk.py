"""A desk: a house that is spoken to in lines of text."""

from effectonce.books import book_text, names_of_jobs, value_text
from effectonce.errors import BadScript, BadText, NothingDone
from effectonce.house import House
from effectonce.scripts import read_event, who_text

NOTHING = "nothing"
REFUSED = "refused"
WHAT = "what"


def _lines_of(rows):
    return "\n".join(rows) if rows else NOTHING


def _names_of(names):
    return ", ".join(names) if names else NOTHING


def _outcomes_text(house):
    return _lines_of([f"{job} {_outcome_text(outcome)}" for job, outcome in house.outcomes()])


def _outcome_text(outcome):
    if outcome[0] == "done":
        return f"done {outcome[1]} {value_text(outcome[2])}"
    return f"{outcome[0]} {outcome[1]}"


def _held_text(house):
    return _lines_of([f"{row[0]} {_hold_text(row[1:])}" for row in house.held()])


def _hold_text(hold):
    fence, machine, attempt = hold
    return f"fence {fence} machine {machine} attempt {attempt}"


def _left_text(house):
    return _names_of(house.left())


def _down_text(house):
    return _names_of([who_text(who) for who in house.down()])


def _stand_text(house):
    time, moment, epoch, fence, letters = house.stand()
    return f"time {time} moment {moment} epoch {epoch} fence {fence} letters {letters}"


def _right_text(house):
    return "yes" if house.right() else "no"


def _book_text(house):
    return book_text(house.world()["book"])


def _calm_text(house):
    return str(house.do(("calm",)))


def _undo_text(house):
    return str(house.undo())


def _redo_text(house):
    return str(house.redo())


# What answers each line that is one word.
SHOWN = {
    "outcomes": _outcomes_text, "held": _held_text, "left": _left_text, "down": _down_text, "stand": _stand_text,
    "right": _right_text, "book": _book_text, "calm": _calm_text, "undo": _undo_text, "redo": _redo_text,
}


def _why_text(told):
    word = told[0]
    if word == "done":
        _, fence, attempt, value, results = told
        needs = ", ".join([f"{need} {value_text(worth)}" for need, worth in results]) or "-"
        return f"done fence {fence} attempt {attempt} value {value_text(value)} of {needs}"
    if word == "failed":
        return "failed fences " + ", ".join([str(fence) for fence in told[1]])
    if word in ("barred", "needs"):
        return f"{word} " + ", ".join(told[1])
    if word == "held":
        return f"held {_hold_text(told[1:])}"
    if word == "units":
        return "units " + ", ".join([f"{thing} {free} {units}" for thing, free, units in told[1]])
    return " ".join([str(part) for part in told])


class Desk:
    """A house, and what it answers to lines."""

    def __init__(self, book, machines):
        self.own_house = House(book, machines)

    def house(self):
        """Returns the house itself."""
        return self.own_house

    def say(self, line):
        """Returns the answer to a line."""
        if not isinstance(line, str):
            return WHAT
        try:
            return self.answer_to(line)
        except NothingDone:
            return REFUSED
        except (BadText, BadScript):
            return WHAT

    def answer_to(self, line):
        """Returns the answer; raises NothingDone where nothing can be taken back or done again.

        For what is neither a line that shows something nor an event of the world it raises BadText or BadScript.
        """
        house = self.own_house
        if line in SHOWN:
            shows = SHOWN[line]
            return shows(house)
        word, _, name = line.partition(" ")
        if word == "why" and name in names_of_jobs(house.world()["book"]):
            return _why_text(house.why(name))
        return str(house.do(read_event(line)))
