"""The keeper: it grants jobs to machines, by what the store has told it."""

from effectonce.books import job_of, names_of_jobs, units_left
from effectonce.plans import job_order
from effectonce.tables import pairs_of, with_fields, without_key


def new_keeper(book, machines, epoch):
    """Returns the keeper of an epoch at its beginning."""
    return {
        "book": book, "machines": machines, "epoch": epoch, "phase": "take", "moment": 0, "time": 0, "fence": 0,
        "holds": (), "ends": (), "barred": (), "open": (("take", epoch),),
    }


def keeper_back(book, machines, last):
    """Returns the keeper that comes behind the epoch last, the records to be written first, and its letters."""
    epoch = last + 1
    return (new_keeper(book, machines, epoch), (("epoch", epoch),), (("take", epoch),))


def known_outcome(keeper, job):
    """Returns "done", "failed" or "barred", None if no outcome of the job is known."""
    lot = dict(keeper["ends"]).get(job, ())
    if lot and lot[-1][0] == "done":
        return "done"
    if len(lot) >= job_of(keeper["book"], job)[6]:
        return "failed"
    return "barred" if job in dict(keeper["barred"]) else None


def known_results(keeper, job):
    """Returns the ascending tuple of the pairs of each need and what it is known to be done with."""
    ends = dict(keeper["ends"])
    needs = job_of(keeper["book"], job)[2]
    return tuple((need, ends[need][-1][5] if known_outcome(keeper, need) == "done" else None) for need in needs)


def _asked(keeper, word):
    """Returns the list of the open letters with this word."""
    return [letter for letter in keeper["open"] if letter[0] == word]


def known_free(keeper):
    """Returns the ascending tuple of the pairs of each thing and the units that are free, as known."""
    taken = [job for job, _ in keeper["holds"]] + [letter[2] for letter in _asked(keeper, "grant")]
    return units_left(keeper["book"], taken)


def idle_machines(keeper):
    """Returns the ascending tuple of the machines that hold nothing, and are to get nothing, as known."""
    busy = [hold[1] for _, hold in keeper["holds"]] + [letter[4] for letter in _asked(keeper, "grant")]
    return tuple(m for m in range(keeper["machines"]) if m not in busy)


def _is_left_alone(keeper, job):
    """Returns whether a job has no known outcome, is not held, and nothing is asked about it."""
    if known_outcome(keeper, job) is not None or job in dict(keeper["holds"]):
        return False
    asked = _asked(keeper, "grant") + _asked(keeper, "free") + _asked(keeper, "bar")
    return job not in [letter[2] for letter in asked]


def _is_ready(keeper, name):
    job = job_of(keeper["book"], name)
    if not _is_left_alone(keeper, name) or job[7] > keeper["time"]:
        return False
    outcomes = [known_outcome(keeper, need) for need in job[2]]
    return all(outcome == "done" if job[1] == "all" else outcome is not None for outcome in outcomes)


def _need_that_bars(keeper, name):
    """Returns the need by which a job can be barred, None if there is none."""
    job = job_of(keeper["book"], name)
    if job[1] != "all" or not _is_left_alone(keeper, name):
        return None
    for need in job[2]:
        outcome = known_outcome(keeper, need)
        if outcome != "done":
            return None if outcome is None else need
    return None


def bars_now(keeper):
    """Returns the tuple of the bars that it would ask."""
    needs = [(name, _need_that_bars(keeper, name)) for name in names_of_jobs(keeper["book"])]
    return tuple(("bar", keeper["epoch"], name, need) for name, need in needs if need is not None)


def grants_now(keeper):
    """Returns the tuple of the grants that it would ask."""
    book = keeper["book"]
    free = dict(known_free(keeper))
    idle = list(idle_machines(keeper))
    grants = []
    for name in job_order(book):
        uses = job_of(book, name)[4]
        if idle and all(units <= free[thing] for thing, units in uses) and _is_ready(keeper, name):
            grants.append(("grant", keeper["epoch"], name, keeper["fence"] + 1 + len(grants), idle.pop(0)))
            for thing, units in uses:
                free[thing] -= units
    return tuple(grants)


def keeper_does(keeper):
    """Returns the keeper behind what it does when it is its turn, and its letters."""
    if keeper["phase"] != "run" or _asked(keeper, "ask"):
        return (dict(keeper), ())
    grants = grants_now(keeper)
    letters = bars_now(keeper) + grants + (("ask", keeper["epoch"]),)
    return _asking(with_fields(keeper, {"fence": keeper["fence"] + len(grants)}), letters)


def _asking(keeper, letters):
    """Returns the keeper to which these letters are open, too, and the letters."""
    return (with_fields(keeper, {"open": keeper["open"] + letters}), letters)


def _asking_again(keeper):
    """Returns the keeper, with an ask open, and the letters: the ask, if none was open."""
    return (keeper, ()) if _asked(keeper, "ask") else _asking(keeper, (("ask", keeper["epoch"]),))


def _without_open(keeper, letter):
    """Returns the keeper to which this letter is open no more."""
    return with_fields(keeper, {"open": tuple(other for other in keeper["open"] if other != letter)})


def _work_letters(keeper, names):
    """Returns the tuple of the letters that tell machines to work at these jobs, which are held."""
    letters = []
    for name, (fence, machine, attempt) in keeper["holds"]:
        if name in names:
            letters.append(("work", keeper["epoch"], machine, name, fence, attempt, known_results(keeper, name)))
    return tuple(letters)


# What hears a letter of the keeper's own epoch returns the keeper behind it, and the letters that it brings.

def _hear_taken(keeper, letter):
    if keeper["phase"] != "take":
        return keeper, ()
    return _asking(with_fields(_without_open(keeper, ("take", letter[1])), {"phase": "ask"}), (("ask", letter[1]),))


def _hear_told(keeper, letter):
    _, epoch, moment, time, fence, holds, ends, barred = letter
    if keeper["phase"] == "take" or moment < keeper["moment"]:
        return keeper, ()
    left = _without_open(keeper, ("ask", epoch))
    if keeper["phase"] == "run" and moment == keeper["moment"]:
        return with_fields(left, {"time": max(time, keeper["time"])}), ()
    told = with_fields(left, {
        "phase": "run", "moment": moment, "time": time, "fence": max(fence, keeper["fence"]), "ends": ends,
        "barred": pairs_of(with_fields(dict(barred), dict(keeper["barred"]))),
    })
    told = with_fields(told, {"holds": _holds_behind(keeper, told, holds, fence)})
    told = with_fields(told, {"open": tuple(asked for asked in told["open"] if _stays_open(told, asked, fence))})
    known = dict(keeper["holds"])
    fresh = [job for job, hold in told["holds"] if job not in known or known[job][0] != hold[0]]
    return told, _work_letters(told, fresh)


def _holds_behind(keeper, told, holds, fence):
    """Returns the holds that are known behind those that the store tells, with its fence.

    told is the keeper that knows all else that it tells.
    """
    rows = [(job, hold[:3]) for job, hold in holds]
    if keeper["phase"] == "ask":
        return tuple(rows)
    known = dict(keeper["holds"])
    asked = [letter[2:4] for letter in _asked(keeper, "grant")]
    # What it neither knows nor has asked was given up behind what is told.
    taken = {job: hold for job, hold in rows if (job in known and known[job][0] == hold[0]) or (job, hold[0]) in asked}
    for job in known:
        # Greater fences were granted behind what is told.
        if job not in taken and known_outcome(told, job) is None and known[job][0] > fence:
            taken[job] = known[job]
    return pairs_of(taken)


def _stays_open(keeper, letter, fence):
    """Returns whether a letter is still open behind what the store tells, with its fence."""
    if letter[0] == "grant":
        return letter[3] > fence
    if letter[0] == "free":
        hold = dict(keeper["holds"]).get(letter[2])
        return hold is not None and hold[0] == letter[3]
    return letter[0] != "bar" or letter[2] not in dict(keeper["barred"])


def _hear_granted(keeper, letter):
    _, epoch, job, fence, machine, attempt, results = letter
    asked = ("grant", epoch, job, fence, machine)
    if asked not in keeper["open"]:
        return keeper, ()
    holds = with_fields(dict(keeper["holds"]), {job: (fence, machine, attempt)})
    now = with_fields(_without_open(keeper, asked), {"holds": pairs_of(holds)})
    return now, (("work", epoch, machine, job, fence, attempt, results),)


def _hear_freed(keeper, letter):
    job, fence = letter[2], letter[3]
    now = _without_open(keeper, ("free", letter[1], job, fence))
    holds = dict(keeper["holds"])
    if job in holds and holds[job][0] == fence:
        now = with_fields(now, {"holds": pairs_of(without_key(holds, job))})
    return (keeper, ()) if now == keeper else _asking_again(now)


def _hear_barred(keeper, letter):
    asked = [bar for bar in _asked(keeper, "bar") if bar[2] == letter[2]]
    if not asked:
        return keeper, ()
    barred = with_fields(dict(keeper["barred"]), {letter[2]: asked[0][3]})
    return _asking_again(with_fields(_without_open(keeper, asked[0]), {"barred": pairs_of(barred)}))


def _hear_no(keeper, letter):
    if letter[2] not in keeper["open"]:
        return keeper, ()
    return _asking_again(_without_open(keeper, letter[2]))


HEARS = {
    "taken": _hear_taken, "told": _hear_told, "granted": _hear_granted, "freed": _hear_freed, "barred": _hear_barred,
    "no": _hear_no,
}


def keeper_hears(keeper, letter):
    """Returns the keeper behind a letter, and the letters that it brings."""
    if letter[0] not in HEARS or letter[1] != keeper["epoch"]:
        return (dict(keeper), ())
    hears = HEARS[letter[0]]
    now, letters = hears(keeper, letter)
    return (dict(now), letters)


def keeper_lapses(keeper, job):
    """Returns the keeper that gives a hold up, and its letters."""
    holds = dict(keeper["holds"])
    if keeper["phase"] != "run" or job not in holds:
        return (dict(keeper), ())
    letter = ("free", keeper["epoch"], job, holds[job][0])
    return (dict(keeper), ()) if letter in keeper["open"] else _asking(keeper, (letter,))


def keeper_again(keeper):
    """Returns the tuple of the letters that it tells again."""
    if keeper["phase"] != "run":
        return keeper["open"]
    return keeper["open"] + _work_letters(keeper, [job for job, _ in keeper["holds"]])
