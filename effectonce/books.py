"""Jobs and books: what has their form, and the language in which they are written."""

from effectonce.commands import is_command
from effectonce.digits import signed_digits
from effectonce.errors import BadText
from effectonce.reader import Reader
from effectonce.values import LONGEST_TEXT, SIGNS, is_between, is_name, is_whole

LONGEST_LENGTH = 20
MOST_TRIES = 5
LATEST_START = 1000
GREATEST_URGENCY = 100
MODES = ("all", "ended")

# The signs between the parts of commands; "?" parts the first two of an "if".
SIGN_OF = {
    "plus": "+", "less": "-", "times": "*", "is": "=", "below": "<",
    "and": "&", "or": "|", "if": "?", "joined": "~", "demand": ";",
}
WORD_OF = {
    "+": "plus", "-": "less", "*": "times", "=": "is", "<": "below",
    "&": "and", "|": "or", "?": "if", "~": "joined", ";": "demand",
}
SIGNS_BETWEEN = "+-*=<&|?~;"

MOST_DIGITS = 9


def _is_pair(value, least):
    """Returns whether it is a name with an integer from least on."""
    if not isinstance(value, tuple) or len(value) != 2:
        return False
    return is_name(value[0]) and is_whole(value[1]) and value[1] >= least


def is_job(value):
    """Returns whether it has the form of a job."""
    if not isinstance(value, tuple) or len(value) != 9:
        return False
    name, mode, needs, command, uses, length, tries, start, urgency = value
    if not is_name(name) or mode not in MODES:
        return False
    if not isinstance(needs, tuple) or not all(is_name(need) for need in needs):
        return False
    if not isinstance(uses, tuple) or not all(_is_pair(pair, 1) for pair in uses):
        return False
    if not is_between(length, 1, LONGEST_LENGTH) or not is_between(tries, 1, MOST_TRIES):
        return False
    if not is_between(start, 0, LATEST_START):
        return False
    return is_between(urgency, -GREATEST_URGENCY, GREATEST_URGENCY) and is_command(command)


def is_book(value):
    """Returns whether it has the form of a book."""
    if not isinstance(value, tuple) or len(value) != 2:
        return False
    things, jobs = value
    if not isinstance(things, tuple) or not all(_is_pair(pair, 0) for pair in things):
        return False
    return isinstance(jobs, tuple) and all(is_job(job) for job in jobs)


def names_of_jobs(book):
    """Returns the tuple of the names of a book's jobs, in its order."""
    return tuple(job[0] for job in book[1])


def job_of(book, name):
    """Returns the first job of this name, None if there is none."""
    for job in book[1]:
        if job[0] == name:
            return job
    return None


def units_of(book, thing):
    """Returns the units of the first thing of this name, None if there is none."""
    for name, units in book[0]:
        if name == thing:
            return units
    return None


def used_units(jobs, thing):
    """Returns how many units of a thing these jobs use together."""
    return sum(many for job in jobs for name, many in job[4] if name == thing)


def units_left(book, names):
    """Returns the tuple of the pairs of each thing and the units that jobs of these names leave of it."""
    jobs = [job for job in book[1] if job[0] in names]
    return tuple((thing, units - used_units(jobs, thing)) for thing, units in book[0])


def value_text(value):
    """Returns the text of a value, as it stands in commands."""
    if value is None:
        return "()"
    return f'"{value}"' if isinstance(value, str) else signed_digits(value)


def command_text(command):
    """Returns the text of a command."""
    written = []
    waiting = [command]
    while waiting:
        part = waiting.pop()
        if isinstance(part, str):
            written.append(part)
        else:
            waiting.extend(_pieces(part)[::-1])
    return "".join(written)


def _pieces(command):
    """Returns the list of the texts and commands that a command's text is put together of."""
    word = command[0]
    if word == "value":
        return [value_text(command[1])]
    if word == "result":
        return ["@" + command[1]]
    if word == "attempt":
        return ["#"]
    if word == "not":
        return ["!", command[1]]
    pieces = ["(", command[1], f" {SIGN_OF[word]} ", command[2]]
    return pieces + ([" : ", command[3], ")"] if word == "if" else [")"])


def _listed(texts):
    return ", ".join(texts) if texts else "-"


def _pairs_text(pairs):
    return _listed([f"{name} {units}" for name, units in pairs])


def job_text(job):
    """Returns the line of a job."""
    name, mode, needs, command, uses, length, tries, start, urgency = job
    lists = f"needs {_listed(needs)} uses {_pairs_text(uses)}"
    numbers = f"length {length} tries {tries} start {start} urgency {urgency}"
    return f"job {name} {mode} {lists} {numbers} does {command_text(command)}"


def book_text(book):
    """Returns the text of a book."""
    return "\n".join([f"things {_pairs_text(book[0])}"] + [job_text(job) for job in book[1]])


def _reader_of(text):
    # What is no text has no beginning that could be one.
    if not isinstance(text, str):
        raise BadText(0)
    return Reader(text)


def read_command(text):
    """Returns the command that is written so; raises BadText(place) if there is none."""
    reader = _reader_of(text)
    command = _command_from(reader)
    reader.take_end()
    return command


def read_job(text):
    """Returns the job that is written so; raises BadText(place) if there is none."""
    reader = _reader_of(text)
    job = _job_from(reader)
    reader.take_end()
    return job


def read_book(text):
    """Returns the book that is written so; raises BadText(place) if there is none."""
    reader = _reader_of(text)
    reader.take_word("things ")
    things = _list_from(reader, _pair_from)
    jobs = []
    while reader.sees("\n"):
        reader.take_sign("\n")
        jobs.append(_job_from(reader))
    reader.take_end()
    return (things, tuple(jobs))


def _command_from(reader):
    # What is begun is a list of a word and parts; the word is "" until its sign has come.
    begun = []
    command = _leaf_behind(reader, begun)
    while begun:
        begun[-1].append(command)
        if _is_ended(reader, begun[-1]):
            command = tuple(begun.pop())
        else:
            command = _leaf_behind(reader, begun)
    return command


def _leaf_behind(reader, begun):
    """Puts what begins here to what is begun, and returns the first part that ends at once."""
    while reader.sees("!("):
        if reader.take_sign("!(") == "!":
            begun.append(["not"])
        elif reader.sees(")"):
            reader.take_sign(")")
            return ("value", None)
        else:
            begun.append([""])
    return _leaf_from(reader)


def _leaf_from(reader):
    if reader.sees("#"):
        reader.take_sign("#")
        return ("attempt",)
    if reader.sees("@"):
        reader.take_sign("@")
        return ("result", reader.take_name())
    if not reader.sees('"'):
        return ("value", reader.take_signed(MOST_DIGITS))
    reader.take_sign('"')
    text = reader.take_run(SIGNS, LONGEST_TEXT)
    reader.take_sign('"')
    return ("value", text)


def _is_ended(reader, begun):
    """Reads what stands behind a part, and returns whether what was begun ends with it."""
    if begun[0] == "not":
        return True
    if begun[0] == "":
        reader.take_word(" ")
        begun[0] = WORD_OF[reader.take_sign(SIGNS_BETWEEN)]
        reader.take_word(" ")
        return False
    if begun[0] == "if" and len(begun) == 3:
        reader.take_word(" : ")
        return False
    reader.take_word(")")
    return True


def _list_from(reader, member_from):
    if reader.sees("-"):
        reader.take_sign("-")
        return ()
    members = [member_from(reader)]
    while reader.sees(","):
        reader.take_word(", ")
        members.append(member_from(reader))
    return tuple(members)


def _name_from(reader):
    return reader.take_name()


def _pair_from(reader):
    name = reader.take_name()
    reader.take_word(" ")
    return (name, reader.take_number(MOST_DIGITS))


def _mode_from(reader):
    mode = "all" if reader.sees("a") else "ended"
    reader.take_word(mode)
    return mode


def _number_behind(reader, word):
    reader.take_word(word)
    return reader.take_number(MOST_DIGITS)


def _job_from(reader):
    reader.take_word("job ")
    name = reader.take_name()
    reader.take_word(" ")
    mode = _mode_from(reader)
    reader.take_word(" needs ")
    needs = _list_from(reader, _name_from)
    reader.take_word(" uses ")
    uses = _list_from(reader, _pair_from)
    length = _number_behind(reader, " length ")
    tries = _number_behind(reader, " tries ")
    start = _number_behind(reader, " start ")
    reader.take_word(" urgency ")
    urgency = reader.take_signed(MOST_DIGITS)
    reader.take_word(" does ")
    return (name, mode, needs, _command_from(reader), uses, length, tries, start, urgency)
