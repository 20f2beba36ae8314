"""Calendars: sets of times, told in parts, and what they come to in the end."""

from math import lcm

from effectonce.stacks import is_made_of
from effectonce.values import is_between
from effectonce.webs import ascends

MOST_PARTS = 20
GREATEST_PERIOD = 60
LATEST_START = 1000
LATEST_TIME = 10000
MOST_LISTED = 40

# Those that are put together of two calendars.
PAIRED = ("both", "common", "without")

# What is to be done with a part: to begin it, or to put its two parts together.
BEGIN = 0
JOIN = 1


def is_calendar(value):
    """Returns whether it is a calendar of at most twenty parts."""
    return is_made_of(value, MOST_PARTS, _has_form, _inner_calendars)


def _inner_calendars(part):
    if part[0] in PAIRED:
        return part[1:]
    return part[1:2] if part[0] == "moved" else ()


def _has_form(part):
    """Returns whether a part is right but for the calendars within it."""
    if not isinstance(part, tuple) or not part:
        return False
    word = part[0]
    if word == "every":
        return len(part) == 4 and _has_every_form(part)
    if word == "list":
        return len(part) == 2 and _has_list_form(part[1])
    if word == "moved":
        return len(part) == 3 and is_between(part[2], 0, LATEST_START)
    return word in PAIRED and len(part) == 3


def _has_every_form(part):
    _, k, s, e = part
    if not is_between(k, 1, GREATEST_PERIOD) or not is_between(s, 0, LATEST_START):
        return False
    return e is None or is_between(e, 0, LATEST_TIME)


def _has_list_form(times):
    if not isinstance(times, tuple) or len(times) > MOST_LISTED:
        return False
    return all(is_between(time, 0, LATEST_TIME) for time in times) and ascends(times)


def _marks(c, low, high):
    """Returns the list that tells for each time from low up to high whether the calendar has it."""
    done = []
    waiting = [(BEGIN, c, 0)]
    while waiting:
        step, part, later = waiting.pop()
        if step == JOIN:
            second = done.pop()
            first = done.pop()
            done.append(_joined_marks(part[0], first, second))
        elif part[0] == "moved":
            waiting.append((BEGIN, part[1], later + part[2]))
        elif part[0] in PAIRED:
            waiting.extend([(JOIN, part, later), (BEGIN, part[2], later), (BEGIN, part[1], later)])
        else:
            done.append(_leaf_marks(part, low - later, high - later))
    return done[0]


def _joined_marks(word, first, second):
    pairs = list(zip(first, second))
    if word == "both":
        return [one or other for one, other in pairs]
    if word == "common":
        return [one and other for one, other in pairs]
    return [one and not other for one, other in pairs]


def _leaf_marks(part, low, high):
    if part[0] == "list":
        listed = {time: True for time in part[1]}
        return [time in listed for time in range(low, high)]
    _, k, s, e = part
    last = high if e is None else e
    return [s <= time <= last and (time - s) % k == 0 for time in range(low, high)]


def _leaves_of(c):
    """Returns the list of the pairs of each "every" and "list" within, and how much later it is moved."""
    leaves = []
    waiting = [(c, 0)]
    while waiting:
        part, later = waiting.pop()
        if part[0] == "moved":
            waiting.append((part[1], later + part[2]))
        elif part[0] in PAIRED:
            waiting.extend([(part[1], later), (part[2], later)])
        else:
            leaves.append((part, later))
    return leaves


def _some_repeating(c):
    """Returns a time from which on a calendar repeats, and a period of it: not always the least ones."""
    n = 0
    q = 1
    for part, later in _leaves_of(c):
        if part[0] == "list":
            n = max([n] + [later + time + 1 for time in part[1]])
        elif part[3] is None:
            n = max(n, later + part[2])
            q = lcm(q, part[1])
        else:
            n = max(n, later + part[3] + 1)
    return (n, q)


def has_time(c, t):
    """Returns whether a time is one of the calendar's."""
    return _marks(c, t, t + 1)[0]


def times_in(c, low, high):
    """Returns the ascending tuple of the calendar's times from low up to, but without, high."""
    return tuple(low + k for k, has in enumerate(_marks(c, low, high)) if has)


def next_time(c, t):
    """Returns the least time of the calendar from t on, None if there is none."""
    n, q = _some_repeating(c)
    times = times_in(c, t, max(n, t) + q)
    return times[0] if times else None


def count_times(c, high):
    """Returns how many times of the calendar lie below high."""
    return len(times_in(c, 0, high))


def repeats(c):
    """Returns the least period with which the calendar repeats in the end, and from where on, before it."""
    n, q = _some_repeating(c)
    marks = _marks(c, 0, n + q)
    q = _least_period(marks[n:])
    while n > 0 and marks[n - 1] == marks[n - 1 + q]:
        n -= 1
    return (n, q)


def _least_period(marks):
    """Returns the least period of what goes round and round in these marks."""
    for q in range(1, len(marks)):
        if marks[q:] + marks[:q] == marks:
            return q
    return len(marks)


def plain_calendar(c):
    """Returns the plain form, which calendars of the same times share."""
    n, q = repeats(c)
    return (times_in(c, 0, n), n, q, tuple(time - n for time in times_in(c, n, n + q)))


def first_unlike(c, d):
    """Returns the least time that one of two calendars alone has, None if there is none."""
    (n, q), (m, p) = _some_repeating(c), _some_repeating(d)
    high = max(n, m) + lcm(q, p)
    for time, (one, other) in enumerate(zip(_marks(c, 0, high), _marks(d, 0, high))):
        if one != other:
            return time
    return None


def is_endless(c):
    """Returns whether the calendar has times beyond each number."""
    return plain_calendar(c)[3] != ()


def calendar_of(plain):
    """Returns a calendar that has this plain form."""
    early, n, q, rests = plain
    c = ("list", early)
    for rest in rests:
        c = ("both", c, ("every", q, n + rest, None))
    return c
