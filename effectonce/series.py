"""Series: jobs that are made anew for each time of a calendar."""

from effectonce.commands import with_leaves
from effectonce.days import count_times, plain_calendar, times_in
from effectonce.errors import NameTwice, TooMany
from effectonce.values import LETTERS
from effectonce.webs import need_book

# How many numbers three letters tell.
MOST_MADE = 17576


def made_name(stem, number):
    """Returns the name of the job with this number; raises TooMany() if there is none."""
    if number >= MOST_MADE:
        raise TooMany()
    high, rest = divmod(number, 26 * 26)
    middle, low = divmod(rest, 26)
    return stem + LETTERS[high] + LETTERS[middle] + LETTERS[low]


def made_number(stem, name):
    """Returns the number of which this is the name, None if there is none."""
    letters = name[len(stem):]
    if not name.startswith(stem) or len(letters) != 3 or not all(letter in LETTERS for letter in letters):
        return None
    high, middle, low = [LETTERS.index(letter) for letter in letters]
    return (high * 26 + middle) * 26 + low


def made_jobs(series, low, high):
    """Returns the tuple of the jobs made of the times from low up to, but without, high."""
    first = count_times(series[1], low)
    times = times_in(series[1], low, high)
    return tuple(_made_job(series, first + k, time) for k, time in enumerate(times))


def _made_job(series, number, time):
    stem, _, chained, (mode, needs, command, uses, length, tries, urgency) = series
    name = made_name(stem, number)
    last = ("value", None)
    if chained == 1 and number > 0:
        ahead = made_name(stem, number - 1)
        needs = tuple(sorted([*needs, ahead]))
        last = ("result", ahead)
    return (name, mode, needs, with_leaves(command, {("last",): last}), uses, length, tries, time, urgency)


def made_book(things, jobs, some, high):
    """Returns the book of these things and jobs, and of the jobs made of the series below high.

    Raises NameTwice(name), or BadBook(number, word), if there is none.
    """
    made = [job for series in some for job in made_jobs(series, 0, high)]
    together = sorted([*jobs, *made], key=lambda job: job[0])
    for k in range(1, len(together)):
        if together[k][0] == together[k - 1][0]:
            raise NameTwice(together[k][0])
    book = (things, tuple(together))
    need_book(book)
    return book


def makes(some, name):
    """Returns the place of the first series that makes the job of this name, and its number."""
    for place, series in enumerate(some):
        number = made_number(series[0], name)
        if number is not None and _has_number(series[1], number):
            return (place, number)
    return None


def _has_number(calendar, number):
    """Returns whether a calendar has more times than this number tells."""
    plain = plain_calendar(calendar)
    return plain[3] != () or number < len(plain[0])
