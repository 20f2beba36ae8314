"""Books as webs: which are right, what hangs on what, and by which way."""

from effectonce.books import is_book, job_of, names_of_jobs
from effectonce.commands import names_in
from effectonce.errors import BadBook


def needs_table(jobs):
    """Returns a dict from the name of each job to its needs."""
    return {job[0]: job[2] for job in jobs}


def needers_table(jobs):
    """Returns a dict from the name of each job to the list of the names of those that need it."""
    needers = {job[0]: [] for job in jobs}
    for job in jobs:
        for need in job[2]:
            needers[need].append(job[0])
    return needers


def reached(table, name):
    """Returns the ascending tuple of all that is come to from a name by one step or more.

    table is a dict from each name to those that one step leads to.
    """
    found = {}
    waiting = list(table[name])
    while waiting:
        at = waiting.pop()
        if at not in found:
            found[at] = True
            waiting.extend(table[at])
    return tuple(sorted(found))


def ascends(names):
    """Returns whether each is greater than the one ahead of it."""
    return all(names[k - 1] < names[k] for k in range(1, len(names)))


def is_row_of(value, names):
    """Returns whether it is a tuple of one or more of these names."""
    if not isinstance(value, tuple) or not value:
        return False
    return all(isinstance(name, str) and name in names for name in value)


def judge_book(value):
    """Returns None if it is a right book, else the number and the word of its first fault."""
    if not is_book(value):
        return (0, "form")
    things, jobs = value
    for k in range(1, len(things)):
        if things[k][0] <= things[k - 1][0]:
            return (k, "thing")
    names = {job[0]: True for job in jobs}
    units = dict(things)
    for k, job in enumerate(jobs):
        if k > 0 and job[0] <= jobs[k - 1][0]:
            return (k, "name")
        word = _word_of_fault(job, names, units)
        if word is not None:
            return (k, word)
    needs = needs_table(jobs)
    for k, job in enumerate(jobs):
        if job[0] in reached(needs, job[0]):
            return (k, "ring")
    return None


def _word_of_fault(job, names, units):
    needs, uses = job[2], job[4]
    if not ascends(needs) or not all(need in names for need in needs):
        return "needs"
    if not all(name in needs for name in names_in(job[3])):
        return "result"
    if not ascends([thing for thing, _ in uses]):
        return "units"
    if not all(thing in units and many <= units[thing] for thing, many in uses):
        return "units"
    return None


def need_book(value):
    """Raises BadBook(number, word) if it is no right book."""
    fault = judge_book(value)
    if fault is not None:
        raise BadBook(fault[0], fault[1])


def _steps_down(jobs, other):
    """Returns a dict from other, and from each that hangs on it, to the least number of steps."""
    needers = needers_table(jobs)
    steps = {other: 0}
    waiting = [other]
    while waiting:
        further = []
        for name in waiting:
            for needer in needers[name]:
                if needer not in steps:
                    steps[needer] = steps[name] + 1
                    further.append(needer)
        waiting = further
    return steps


def _walk_down(needs, steps, one):
    """Returns the list of names from one on, by fewer steps each time, the least name each time."""
    walked = [one]
    while steps[walked[-1]] > 0:
        fewer = steps[walked[-1]] - 1
        walked.append(min([need for need in needs[walked[-1]] if steps.get(need) == fewer]))
    return walked


def ring_of(jobs):
    """Returns a ring of these jobs, each needing the one behind it; None if there is none."""
    needs = needs_table(jobs)
    for name in needs:
        if name in reached(needs, name):
            steps = _steps_down(jobs, name)
            _, nearest = min([(steps[need], need) for need in needs[name] if need in steps])
            # The walk ends with the name itself, which stands first in the ring.
            return (name, *_walk_down(needs, steps, nearest)[:-1])
    return None


def judge_ring(jobs, value):
    """Returns None if it is a ring of these jobs, else the first of its faults."""
    needs = needs_table(jobs)
    if not is_row_of(value, needs) or len(set(value)) < len(value):
        return ("form",)
    k = _first_not_needing(needs, value + value[:1])
    return None if k is None else ("need", k)


def _first_not_needing(needs, names):
    """Returns the least number of a name that does not need the next one, None if all do."""
    for k in range(len(names) - 1):
        if names[k + 1] not in needs[names[k]]:
            return k
    return None


def needs_of(book, name):
    """Returns the needs of a job."""
    return job_of(book, name)[2]


def needed_by(book, name):
    """Returns the ascending tuple of the names of the jobs that need it."""
    return tuple(sorted(needers_table(book[1])[name]))


def hangs_on(book, name):
    """Returns the ascending tuple of the names of all jobs on which it hangs."""
    return reached(needs_table(book[1]), name)


def hung_on(book, name):
    """Returns the ascending tuple of the names of all jobs that hang on it."""
    return reached(needers_table(book[1]), name)


def way(book, one, other):
    """Returns the least shortest way from one down to other, None if there is none."""
    steps = _steps_down(book[1], other)
    return tuple(_walk_down(needs_table(book[1]), steps, one)) if one in steps else None


def judge_way(book, one, other, value):
    """Returns None if it is a shortest way from one down to other, else the first of its faults."""
    if not is_row_of(value, names_of_jobs(book)):
        return ("form",)
    if value[0] != one or value[-1] != other:
        return ("ends",)
    k = _first_not_needing(needs_table(book[1]), value)
    if k is not None:
        return ("need", k)
    least = len(way(book, one, other))
    return None if len(value) == least else ("long", least)
