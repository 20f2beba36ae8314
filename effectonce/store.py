"""The store: what was granted and what has ended, and how it answers letters."""

from effectonce.books import job_of, names_of_jobs, units_left
from effectonce.tables import pairs_of, with_fields, without_key


def new_store(book):
    """Returns the store at the beginning."""
    return {
        "book": book, "time": 0, "epoch": 0, "moment": 0, "fence": 0,
        "holds": {}, "ends": {}, "barred": {}, "freed": (),
    }


def ends_of(store, job):
    """Returns the tuple of the ends of a job."""
    return store["ends"].get(job, ())


def has_ended(store, job):
    """Returns whether a job has ended."""
    return outcome_in(store, job) is not None


def outcome_in(store, job):
    """Returns the outcome of a job, None if it has not ended."""
    ends = ends_of(store, job)
    if ends and ends[-1][0] == "done":
        return ("done", len(ends), ends[-1][5])
    tries = job_of(store["book"], job)[6]
    if len(ends) >= tries:
        return ("failed", tries)
    return ("barred", store["barred"][job]) if job in store["barred"] else None


def is_done_in(store, job):
    """Returns whether a job is done."""
    outcome = outcome_in(store, job)
    return outcome is not None and outcome[0] == "done"


def has_come(store, mode, need):
    """Returns whether a need has come to what a job of this mode waits for."""
    return is_done_in(store, need) if mode == "all" else has_ended(store, need)


def results_in(store, job):
    """Returns the ascending tuple of the pairs of each need and what it was done with, None if it is not done."""
    needs = job_of(store["book"], job)[2]
    return tuple((need, ends_of(store, need)[-1][5] if is_done_in(store, need) else None) for need in needs)


def attempt_in(store, job):
    """Returns the number of the attempt that comes next."""
    return len(ends_of(store, job)) + 1


def free_units(store):
    """Returns the ascending tuple of the pairs of each thing and the units that no job holds."""
    return units_left(store["book"], store["holds"])


def still_open(store):
    """Returns the ascending tuple of the jobs that have not ended."""
    return tuple(job for job in names_of_jobs(store["book"]) if not has_ended(store, job))


def bars_grant(store, job):
    """Returns None if a job may be granted now, else the first reason why it may not."""
    told = job_of(store["book"], job)
    if told is None:
        return ("job",)
    if has_ended(store, job):
        return ("ended",)
    if job in store["holds"]:
        return ("held",)
    if told[7] > store["time"]:
        return ("early", told[7])
    for need in told[2]:
        if not has_come(store, told[1], need):
            return ("need", need)
    free = dict(free_units(store))
    for thing, units in told[4]:
        if units > free[thing]:
            return ("units", thing)
    return None


def bar_need(store, job):
    """Returns the need by which a job is to be barred, None if there is none."""
    told = job_of(store["book"], job)
    if told[1] != "all" or has_ended(store, job):
        return None
    for need in told[2]:
        if not is_done_in(store, need):
            return need if has_ended(store, need) else None
    return None


def ticked(store):
    """Returns the store with its time greater by one."""
    return with_fields(store, {"time": store["time"] + 1})


def _written(store, fields):
    """Returns the store with these fields, which a letter writes."""
    return with_fields(with_fields(store, fields), {"moment": store["moment"] + 1})


def store_hears(store, letter):
    """Returns the store behind a letter, and the tuple of its answers."""
    if letter[0] == "end":
        changed, answer = _hear_end(store, letter)
    elif letter[0] == "take":
        changed, answer = _hear_take(store, letter)
    elif letter[1] != store["epoch"]:
        changed, answer = store, None
    elif letter[0] == "grant":
        changed, answer = _hear_grant(store, letter)
    elif letter[0] == "free":
        changed, answer = _hear_free(store, letter)
    elif letter[0] == "bar":
        changed, answer = _hear_bar(store, letter)
    else:
        changed, answer = store, _all_told(store)
    if answer is None:
        answer = ("no", store["epoch"], letter)
    return (dict(changed), (answer,))


# What hears a letter returns the store behind it, and its answer, None for "no".

def _hear_take(store, letter):
    epoch = letter[1]
    if epoch < store["epoch"]:
        return store, None
    if epoch > store["epoch"]:
        store = _written(store, {"epoch": epoch})
    return store, ("taken", epoch)


def _hear_grant(store, letter):
    _, epoch, job, fence, machine = letter
    hold = store["holds"].get(job)
    if hold is None or hold[:2] != (fence, machine):
        if bars_grant(store, job) is not None or fence <= store["fence"]:
            return store, None
        hold = (fence, machine, attempt_in(store, job), store["moment"] + 1, store["time"])
        store = _written(store, {"fence": fence, "holds": with_fields(store["holds"], {job: hold})})
    return store, ("granted", epoch, job, fence, machine, hold[2], results_in(store, job))


def _hear_free(store, letter):
    _, epoch, job, fence = letter
    hold = store["holds"].get(job)
    if hold is not None and hold[0] == fence:
        freed = sorted([*store["freed"], (fence, job, *hold[1:], store["moment"] + 1)])
        store = _written(store, {"holds": without_key(store["holds"], job), "freed": tuple(freed)})
    if fence > store["fence"]:
        return store, None
    return store, ("freed", epoch, job, fence)


def _hear_bar(store, letter):
    _, epoch, job, need = letter
    if store["barred"].get(job) != need:
        if job_of(store["book"], job) is None or bar_need(store, job) != need:
            return store, None
        store = _written(store, {"barred": with_fields(store["barred"], {job: need})})
    return store, ("barred", epoch, job)


def _hear_end(store, letter):
    _, machine, job, fence, attempt, outcome = letter
    hold = store["holds"].get(job)
    if hold is not None and hold[:3] == (fence, machine, attempt):
        value = outcome[1] if outcome[0] == "done" else None
        end = (outcome[0], fence, hold[3], hold[4], store["moment"] + 1, value)
        ends = with_fields(store["ends"], {job: ends_of(store, job) + (end,)})
        store = _written(store, {"holds": without_key(store["holds"], job), "ends": ends})
    stands = any(end[1] == fence for end in ends_of(store, job))
    return store, ("ended" if stands else "refused", machine, job, fence)


def _all_told(store):
    tables = [pairs_of(store[field]) for field in ("holds", "ends", "barred")]
    return ("told", store["epoch"], store["moment"], store["time"], store["fence"], *tables)


def store_again(book, records):
    """Returns the store behind all these records of it."""
    store = new_store(book)
    for record in records:
        if record == ("tick",):
            store = ticked(store)
        else:
            time, letter = record
            store = store_hears(with_fields(store, {"time": max(store["time"], time)}), letter)[0]
    return store
