"""Commands: what jobs make of results, worked out without recursion, as they may be deep."""

from effectonce.stacks import is_made_of, taken_off
from effectonce.values import is_name, is_true, is_value, is_whole, kept_text, rank

MOST_PARTS = 40

# How many commands stand behind the words of those that have commands within them.
INNER = {
    "plus": 2, "less": 2, "times": 2, "is": 2, "below": 2, "and": 2, "or": 2,
    "not": 1, "if": 3, "joined": 2, "demand": 2,
}

# Those of which one part tells which other part is worked out.
CHOOSING = ("if", "demand")

# What is to be done with a part: to begin it, to go on behind its first part, to end it.
BEGIN = 0
CHOOSE = 1
JOIN = 2


def inner_parts(command):
    """Returns the tuple of the commands that stand directly in a command."""
    return command[1:] if command[0] in INNER else ()


def is_command(value):
    """Returns whether it is a command of at most forty parts."""
    return is_made_of(value, MOST_PARTS, _has_form, inner_parts)


def _has_form(part):
    if not isinstance(part, tuple) or not part or not isinstance(part[0], str):
        return False
    word = part[0]
    if word == "value":
        return len(part) == 2 and is_value(part[1])
    if word == "result":
        return len(part) == 2 and is_name(part[1])
    if word == "attempt":
        return len(part) == 1
    return word in INNER and len(part) == 1 + INNER[word]


def _parts_of(command):
    parts = []
    waiting = [command]
    while waiting:
        part = waiting.pop()
        parts.append(part)
        waiting.extend(inner_parts(part))
    return parts


def names_in(command):
    """Returns the ascending tuple of the names whose results a command asks for."""
    return tuple(sorted({part[1] for part in _parts_of(command) if part[0] == "result"}))


def size_of(command):
    """Returns how many parts a command has."""
    return len(_parts_of(command))


def attempt_worth(command, results, attempt):
    """Returns ("done", worth), or ("failed",), as an attempt of a command comes to it."""
    return worked_out(command, results, attempt)[0]


def worked_out(command, results, attempt):
    """Returns what an attempt comes to, and the tuple of the names at whose results it looked."""
    told = {name: value for name, value in results}
    looked = []
    worths = []
    waiting = [(BEGIN, command)]
    while waiting:
        step, part = waiting.pop()
        if step == JOIN:
            worths.append(_joined_worth(part[0], taken_off(worths, INNER[part[0]])))
        elif step == CHOOSE:
            taken = _taken_part(part, worths.pop())
            if taken is None:
                return ("failed",), tuple(looked)
            waiting.append((BEGIN, taken))
        elif part[0] in CHOOSING:
            waiting.extend([(CHOOSE, part), (BEGIN, part[1])])
        elif part[0] in INNER:
            waiting.extend(_begun(part, inner_parts(part)))
        elif part[0] == "result":
            looked.append(part[1])
            worths.append(told.get(part[1]))
        else:
            worths.append(attempt if part[0] == "attempt" else part[1])
    return ("done", worths[0]), tuple(looked)


def _begun(part, inner):
    # The last of a list of waiting steps is the first that is taken.
    return [(JOIN, part)] + [(BEGIN, each) for each in inner[::-1]]


def _taken_part(part, worth):
    """Returns the part of an "if" or "demand" that comes next; None if a demand fails."""
    if is_true(worth):
        return part[2]
    return part[3] if part[0] == "if" else None


def _joined_worth(word, worths):
    if word == "not":
        return 0 if is_true(worths[0]) else 1
    first, second = worths
    if word == "joined":
        both_texts = isinstance(first, str) and isinstance(second, str)
        return kept_text(first + second) if both_texts else None
    if word in ("plus", "less", "times"):
        return _reckoned(word, first, second) if is_whole(first) and is_whole(second) else None
    return 1 if _holds(word, first, second) else 0


def _reckoned(word, first, second):
    if word == "plus":
        return first + second
    return first - second if word == "less" else first * second


def _holds(word, first, second):
    if word == "is":
        return first == second
    if word == "below":
        return rank(first) < rank(second)
    if word == "and":
        return is_true(first) and is_true(second)
    return is_true(first) or is_true(second)


def outcome_of(command, results, tries):
    """Returns ("done", k, worth) for the first attempt that does not fail, else ("failed", tries)."""
    for attempt in range(1, tries + 1):
        answer = attempt_worth(command, results, attempt)
        if answer[0] == "done":
            return ("done", attempt, answer[1])
    return ("failed", tries)


def folded(command):
    """Returns the command with all parts worked out that hang on no result and no attempt."""
    done = []
    waiting = [(BEGIN, command)]
    while waiting:
        step, part = waiting.pop()
        if step == JOIN:
            done.append(_folded_whole(part[0], taken_off(done, INNER[part[0]])))
        elif step == CHOOSE:
            waiting.extend(_folding_on(part, done))
        elif part[0] in CHOOSING:
            waiting.extend([(CHOOSE, part), (BEGIN, part[1])])
        elif part[0] in INNER:
            waiting.extend(_begun(part, inner_parts(part)))
        else:
            done.append(part)
    return done[0]


def _folding_on(part, done):
    """Returns the steps behind the folded first part of an "if" or "demand", the last of done."""
    taken = None
    if done[-1][0] == "value":
        taken = _taken_part(part, done[-1][1])
    if taken is None:
        return _begun(part, part[2:])
    # The other part is dropped unfolded: nothing could come of it.
    done.pop()
    return [(BEGIN, taken)]


def _folded_whole(word, inner):
    if word in CHOOSING or not all(part[0] == "value" for part in inner):
        return (word, *inner)
    return ("value", _joined_worth(word, [part[1] for part in inner]))


def with_leaves(command, others):
    """Returns the command with other parts for those that have no commands within them.

    others is a dict from such parts to what stands in their places.
    """
    done = []
    waiting = [(BEGIN, command)]
    while waiting:
        step, part = waiting.pop()
        if step == JOIN:
            done.append((part[0], *taken_off(done, INNER[part[0]])))
        elif part[0] in INNER:
            waiting.extend(_begun(part, inner_parts(part)))
        else:
            done.append(others.get(part, part))
    return done[0]
