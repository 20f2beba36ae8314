"""The store judged by what stands in it, and why each job stands as it does."""

from effectonce.books import job_of, names_of_jobs
from effectonce.commands import attempt_worth
from effectonce.meaning import outcomes
from effectonce.stacks import is_same
from effectonce.store import (
    attempt_in, bar_need, ends_of, free_units, has_come, has_ended, is_done_in, outcome_in, results_in, still_open,
)


def told_outcomes(store):
    """Returns the ascending tuple of the pairs of each job that has ended and its outcome."""
    told = [(job, outcome_in(store, job)) for job in names_of_jobs(store["book"])]
    return tuple((job, outcome) for job, outcome in told if outcome is not None)


def have_all_ended(store):
    """Returns whether all jobs have ended."""
    return still_open(store) == ()


def _all_holds(store):
    """Returns the list of (job, fence, first moment, last moment) of all holds, the last None of one that stands."""
    rows = []
    for job, ends in store["ends"].items():
        rows.extend([(job, fence, begun, ended) for _, fence, begun, _, ended, _ in ends])
    rows.extend([(job, fence, begun, freed) for fence, job, _, _, begun, _, freed in store["freed"]])
    rows.extend([(job, fence, begun, None) for job, (fence, _, _, begun, _) in store["holds"].items()])
    return rows


def _attempts(store, job):
    """Returns the list of (fence, begun, since) of a job's ends, and of its hold that stands."""
    rows = [end[1:4] for end in ends_of(store, job)]
    hold = store["holds"].get(job)
    return rows if hold is None else rows + [(hold[0], hold[3], hold[4])]


def judge_store(store):
    """Returns None if what stands in a store can be right, else the first of its faults."""
    fence = _wrong_fence(store)
    if fence is not None:
        return ("fence", fence)
    for job in store["book"][1]:
        for word in JUDGED:
            is_so = JUDGED[word]
            if is_so(store, job):
                return (word, job[0])
    return _units_fault(store)


def _wrong_fence(store):
    fences = sorted([fence for _, fence, _, _ in _all_holds(store)])
    for k, fence in enumerate(fences):
        if fence < 1 or fence > store["fence"] or fence in fences[k + 1:k + 2]:
            return fence
    return None


def _is_twice(store, job):
    """Returns whether its attempts cannot have come one behind another, each once."""
    name, ends, hold = job[0], ends_of(store, job[0]), store["holds"].get(job[0])
    if len(ends) > job[6] or any(end[0] == "done" for end in ends[:-1]):
        return True
    for end, (fence, begun, _) in zip(ends, _attempts(store, name)[1:]):
        if fence <= end[1] or begun < end[4]:
            return True
    if any(end[4] <= end[2] for end in ends):
        return True
    if hold is not None and (has_ended(store, name) or hold[2] != attempt_in(store, name)):
        return True
    return name in store["barred"] and ends != ()


def _is_early(store, job):
    return any(since < job[7] for _, _, since in _attempts(store, job[0]))


def _lacks_needs(store, job):
    begins = [begun for _, begun, _ in _attempts(store, job[0])]
    return not all(_served_by(store, job, need, begun) for begun in begins for need in job[2])


def _served_by(store, job, need, moment):
    """Returns whether a need had ended by a moment as the job's mode asks it."""
    ends = ends_of(store, need)
    ended_by_then = ends != () and ends[-1][4] <= moment
    if ended_by_then and ends[-1][0] == "done":
        return True
    if job[1] == "all":
        return False
    # At which moment a job was barred stands nowhere.
    return need in store["barred"] or (ended_by_then and len(ends) >= job_of(store["book"], need)[6])


def _is_made_otherwise(store, job):
    results = results_in(store, job[0])
    for k, end in enumerate(ends_of(store, job[0])):
        due = attempt_worth(job[3], results, k + 1)
        if not is_same((end[0], end[5]), due if due[0] == "done" else ("failed", None)):
            return True
    return False


def _is_barred_wrongly(store, job):
    if job[0] not in store["barred"]:
        return False
    need = store["barred"][job[0]]
    lacking = [other for other in job[2] if not is_done_in(store, other)]
    return job[1] != "all" or lacking[:1] != [need] or not has_ended(store, need)


# The words of what may be wrong with a job, in their order, with what tells it.
JUDGED = {
    "twice": _is_twice, "early": _is_early, "needs": _lacks_needs, "made": _is_made_otherwise,
    "barred": _is_barred_wrongly,
}


def _units_fault(store):
    holds = [row for row in _all_holds(store) if row[3] is None or row[3] > row[2]]
    for thing, units in store["book"][0]:
        used = 0
        # What is used gets more only where a hold begins.
        for moment, more in _changes_of(store["book"], thing, holds):
            used += more
            if used > units:
                return ("units", thing, moment)
    return None


def _changes_of(book, thing, holds):
    """Returns the list of (moment, by how many units more of a thing are used from it on), ascending."""
    changes = {}
    for job, _, first, last in holds:
        units = dict(job_of(book, job)[4]).get(thing, 0)
        changes[first] = changes.get(first, 0) + units
        if last is not None:
            changes[last] = changes.get(last, 0) - units
    return sorted(changes.items())


def judge_ends(store):
    """Returns None if each outcome is the one of the plain meaning, else the first that is another."""
    due = dict(outcomes(store["book"]))
    for job, there in told_outcomes(store):
        if not is_same(there, due[job]):
            return ("else", job, there, due[job])
    return None


def why_now(store, job):
    """Returns why a job stands as it does."""
    outcome = outcome_in(store, job)
    if outcome is not None:
        return _why_ended(store, job, outcome)
    if job in store["holds"]:
        return ("held", *store["holds"][job][:3])
    need = bar_need(store, job)
    return _why_waiting(store, job) if need is None else ("bar", need)


def _why_ended(store, job, outcome):
    fences = tuple(end[1] for end in ends_of(store, job))
    if outcome[0] == "done":
        return ("done", fences[-1], outcome[1], outcome[2], results_in(store, job))
    if outcome[0] == "failed":
        return ("failed", fences)
    names = [job]
    while outcome[0] == "barred":
        names.append(outcome[1])
        outcome = outcome_in(store, outcome[1])
    return ("barred", tuple(names))


def _why_waiting(store, job):
    """Returns why a job that has not ended, is not held and not to be barred stands as it does."""
    _, mode, needs, _, uses, _, _, start, _ = job_of(store["book"], job)
    lacking = tuple(need for need in needs if not has_come(store, mode, need))
    if lacking:
        return ("needs", lacking)
    if start > store["time"]:
        return ("time", start)
    free = dict(free_units(store))
    short = tuple((thing, free[thing], units) for thing, units in uses if free[thing] < units)
    return ("units", short) if short else ("may",)


def judge_why_now(store, job, value):
    """Returns None if it is just what why_now tells, else ("not", its first member)."""
    due = why_now(store, job)
    return None if is_same(value, due) else ("not", due[0])


def ready_now(store):
    """Returns the ascending tuple of the jobs that could be granted now."""
    return tuple(job for job in names_of_jobs(store["book"]) if why_now(store, job) == ("may",))


def waited_for(store):
    """Returns the ascending tuple of the pairs of a need and how many jobs wait for it."""
    reasons = [why_now(store, job) for job in names_of_jobs(store["book"])]
    needs = [need for reason in reasons if reason[0] == "needs" for need in reason[1]]
    return tuple((need, needs.count(need)) for need in sorted(set(needs)))
