"""What sways outcomes: what a job truly hangs on, and what comes of a change."""

from effectonce.books import job_of
from effectonce.commands import worked_out
from effectonce.meaning import attempts_made, outcome_by, outcome_table, results_by
from effectonce.webs import reached


def looked_at(book, name):
    """Returns the ascending tuple of the needs at whose results the job's attempts looked."""
    return _looked_by(job_of(book, name), outcome_table(book))


def _looked_by(job, table):
    attempts = range(1, attempts_made(table[job[0]]) + 1)
    results = results_by(job, table)
    return tuple(sorted({need for k in attempts for need in worked_out(job[3], results, k)[1]}))


def truly_hangs(book, name):
    """Returns the ascending tuple of the names on which the job's outcome truly hangs."""
    table = outcome_table(book)
    return reached({job[0]: _steps_from(job, table) for job in book[1]}, name)


def _steps_from(job, table):
    """Returns the tuple of those needs that make the job's outcome what it is."""
    outcome = table[job[0]]
    if outcome[0] == "barred":
        return tuple(need for need in job[2] if need <= outcome[1])
    # In the mode "all" the job is not barred just because all its needs are done.
    return job[2] if job[1] == "all" else _looked_by(job, table)


def changed(book, other):
    """Returns the ascending tuple of the names with unlike outcomes in two books, and these."""
    first, second = outcome_table(book), outcome_table(other)
    return tuple((name, first[name], second[name]) for name in sorted(first) if first[name] != second[name])


def with_command(book, name, command):
    """Returns the book in which this job has another command."""
    jobs = [job[:3] + (command,) + job[4:] if job[0] == name else job for job in book[1]]
    return (book[0], tuple(jobs))


def swayed(book, name, command):
    """Returns what another command for one job changes, as changed tells it."""
    return changed(book, with_command(book, name, command))


def sure(book, ended):
    """Returns the pairs of name and outcome of the jobs not in ended that are sure by it."""
    due = [(job[0], outcome_by(job, ended)) for job in book[1] if job[0] not in ended]
    return tuple((name, outcome) for name, outcome in sorted(due) if outcome is not None)


def rounds_of(book):
    """Returns the tuple of the tuples of names that get sure in each round, from nothing on."""
    known = {}
    rounds = []
    told = sure(book, known)
    while told:
        rounds.append(tuple(name for name, _ in told))
        known.update(dict(told))
        told = sure(book, known)
    return tuple(rounds)
