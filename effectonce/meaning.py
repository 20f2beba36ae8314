"""The plain meaning of a book: the one table of outcomes that is right job by job."""

from effectonce.books import job_of, names_of_jobs
from effectonce.commands import attempt_worth, outcome_of
from effectonce.orders import in_order
from effectonce.values import is_name, is_value, is_whole
from effectonce.webs import is_row_of


def is_done(outcome):
    """Returns whether an outcome is one of a job that was done."""
    return outcome[0] == "done"


def is_outcome(value):
    """Returns whether it has the form of an outcome."""
    if not isinstance(value, tuple) or len(value) not in (2, 3):
        return False
    if value[0] == "done":
        return len(value) == 3 and is_whole(value[1]) and value[1] >= 1 and is_value(value[2])
    if len(value) == 3:
        return False
    if value[0] == "failed":
        return is_whole(value[1]) and value[1] >= 1
    return value[0] == "barred" and is_name(value[1])


def results_by(job, known):
    """Returns the results of a job; known is a dict from its needs to their outcomes."""
    return tuple((need, known[need][2] if is_done(known[need]) else None) for need in job[2])


def outcome_by(job, known):
    """Returns the outcome of a job that comes of those in known, None if they don't tell it yet."""
    if job[1] == "all":
        for need in job[2]:
            if need not in known:
                return None
            if not is_done(known[need]):
                return ("barred", need)
    if not all(need in known for need in job[2]):
        return None
    return outcome_of(job[3], results_by(job, known), job[6])


def outcome_table(book):
    """Returns a dict from each name to the job's outcome."""
    known = {}
    for name in in_order(book):
        known[name] = outcome_by(job_of(book, name), known)
    return known


def outcomes(book):
    """Returns the tuple of the pairs of each job's name and outcome, ascending by names."""
    return tuple(sorted(outcome_table(book).items()))


def outcome_due(book, name):
    """Returns the outcome of one job."""
    return outcome_table(book)[name]


def results_due(book, name):
    """Returns the results of one job, also if it is barred."""
    return results_by(job_of(book, name), outcome_table(book))


def tries_of(book, name):
    """Returns the tuple of what the attempts come to that a job makes."""
    job, table = job_of(book, name), outcome_table(book)
    results = results_by(job, table)
    return tuple(attempt_worth(job[3], results, k) for k in range(1, attempts_made(table[name]) + 1))


def attempts_made(outcome):
    """Returns how many attempts a job with this outcome made."""
    return 0 if outcome[0] == "barred" else outcome[1]


def judge_outcomes(book, value):
    """Returns None if it is the table of outcomes, else the first of its faults."""
    if not _is_table(value, names_of_jobs(book)):
        return ("form",)
    told = dict(value)
    for name in in_order(book):
        due = outcome_by(job_of(book, name), told)
        if told[name] != due:
            return ("job", name, due)
    return None


def _is_table(value, names):
    if not isinstance(value, tuple) or len(value) != len(names):
        return False
    for k, pair in enumerate(value):
        if not isinstance(pair, tuple) or len(pair) != 2:
            return False
        if pair[0] != names[k] or not is_outcome(pair[1]):
            return False
    return True


def why(book, name):
    """Returns the tuple of the names that explain an outcome, from the job's own on."""
    return _why_by(outcome_table(book), name)


def _why_by(table, name):
    names = [name]
    while table[names[-1]][0] == "barred":
        names.append(table[names[-1]][1])
    return tuple(names)


def judge_why(book, value):
    """Returns None if it is what why tells for its first name, else the first of its faults."""
    if not is_row_of(value, names_of_jobs(book)):
        return ("form",)
    table = outcome_table(book)
    for k in range(len(value) - 1):
        if table[value[k]] != ("barred", value[k + 1]):
            return ("barred", k)
    return ("end",) if table[value[-1]][0] == "barred" else None


def blamed(book, name):
    """Returns the ascending tuple of the names of the barred jobs whose why ends with this name."""
    table = outcome_table(book)
    barred = [other for other in table if table[other][0] == "barred"]
    return tuple(sorted([other for other in barred if _why_by(table, other)[-1] == name]))
