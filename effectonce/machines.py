"""Machines: they work step by step at what they are given, and tell each end till it is answered."""

from effectonce.books import job_of
from effectonce.commands import attempt_worth
from effectonce.tables import with_fields, without_key


def fresh_machine(m):
    """Returns the machine m at the beginning."""
    return {"machine": m, "works": {}, "gone": ()}


def machine_took(machine, job, fence, attempt, results):
    """Returns the machine with a work that begins, if its fence has not been there yet."""
    if fence in machine["works"] or fence in machine["gone"]:
        return dict(machine)
    return _with_work(machine, fence, (job, attempt, results, 0))


def machine_stepped(machine, fence, steps):
    """Returns the machine in which a work has at least so many steps."""
    if fence not in machine["works"]:
        return dict(machine)
    work = machine["works"][fence]
    return _with_work(machine, fence, (*work[:3], max(work[3], steps)))


def machine_put_away(machine, fence):
    """Returns the machine without the work of a fence, which is gone for ever."""
    gone = tuple(sorted(set([fence, *machine["gone"]])))
    return with_fields(machine, {"works": without_key(machine["works"], fence), "gone": gone})


def _with_work(machine, fence, work):
    return with_fields(machine, {"works": with_fields(machine["works"], {fence: work})})


def machine_changed(machine, record):
    """Returns the machine behind the change that a record tells."""
    if record[0] == "took":
        _, job, fence, attempt, results = record
        return machine_took(machine, job, fence, attempt, results)
    if record[0] == "step":
        return machine_stepped(machine, record[1], record[2])
    return machine_put_away(machine, record[1])


def machine_again(m, records):
    """Returns the machine m behind all these records of it."""
    machine = fresh_machine(m)
    for each in records:
        machine = machine_changed(machine, each)
    return machine


def machine_hears(machine, book, letter):
    """Returns the machine behind a letter, the letters that go out, and the records to be written first."""
    if letter[0] == "work" and letter[2] == machine["machine"]:
        return _hear_work(machine, book, letter)
    if letter[0] in ("ended", "refused") and letter[1] == machine["machine"] and letter[3] in machine["works"]:
        return _noted(machine, ("gone", letter[3]))
    return (dict(machine), (), ())


def _noted(machine, told):
    """Returns what comes of a change that goes out in no letter."""
    return (machine_changed(machine, told), (), (told,))


def _hear_work(machine, book, letter):
    _, _, _, job, fence, attempt, results = letter
    if fence in machine["works"]:
        again = () if fence in open_works(machine, book) else (end_letter(machine, book, fence),)
        return (dict(machine), again, ())
    if fence in machine["gone"]:
        return (dict(machine), (), ())
    return _noted(machine, ("took", job, fence, attempt, results))


def end_letter(machine, book, fence):
    """Returns the letter that tells what the work of a fence comes to."""
    job, attempt, results, _ = machine["works"][fence]
    outcome = attempt_worth(job_of(book, job)[3], results, attempt)
    return ("end", machine["machine"], job, fence, attempt, outcome)


def machine_works(machine, book):
    """Returns the machine behind a step of its first open work, as machine_hears does."""
    fences = open_works(machine, book)
    if not fences:
        return (dict(machine), (), ())
    fence = fences[0]
    stepped, letters, kept = _noted(machine, ("step", fence, machine["works"][fence][3] + 1))
    if fence not in open_works(stepped, book):
        letters = (end_letter(stepped, book, fence),)
    return (stepped, letters, kept)


def machine_tells(machine, book):
    """Returns the machine as it is, with the end letters of all its complete works."""
    still = open_works(machine, book)
    complete = [fence for fence in sorted(machine["works"]) if fence not in still]
    return (dict(machine), tuple(end_letter(machine, book, fence) for fence in complete), ())


def _steps_left(machine, book, fence):
    job, _, _, steps = machine["works"][fence]
    return max(0, job_of(book, job)[5] - steps)


def open_works(machine, book):
    """Returns the ascending tuple of the fences of the works that are not complete."""
    return tuple(fence for fence in sorted(machine["works"]) if _steps_left(machine, book, fence) > 0)


def steps_missing(machine, book):
    """Returns how many steps are missing to all works together."""
    return sum(_steps_left(machine, book, fence) for fence in machine["works"])
