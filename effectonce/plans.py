"""Plans: which job runs when, and on which machine."""

from effectonce.books import job_of, names_of_jobs, used_units
from effectonce.orders import ranks
from effectonce.values import is_whole


def ends_by(book, begins):
    """Returns a dict from the name of each job to its end; begins is a dict from all names."""
    return {job[0]: begins[job[0]] + job[5] for job in book[1]}


def running(book, begins, time):
    """Returns the list of the jobs that run at a time; begins is a dict from some names or all."""
    some = [job for job in book[1] if job[0] in begins]
    return [job for job in some if begins[job[0]] <= time < begins[job[0]] + job[5]]


def _begins_of(plan):
    return {name: begin for name, _, begin in plan}


def plan_length(book, plan):
    """Returns the greatest end of a plan, 0 without jobs."""
    return max(ends_by(book, _begins_of(plan)).values(), default=0)


def judge_plan(book, m, value):
    """Returns None if it is a right plan on m machines, else the first of its faults."""
    if not _is_plan(book, m, value):
        return ("form",)
    begins = _begins_of(value)
    ends = ends_by(book, begins)
    for job in book[1]:
        if begins[job[0]] < job[7]:
            return ("start", job[0])
    for job in book[1]:
        for need in job[2]:
            if ends[need] > begins[job[0]]:
                return ("needs", job[0], need)
    return _machine_fault(value, ends) or _units_fault(book, begins)


def _is_plan(book, m, value):
    names = names_of_jobs(book)
    if not isinstance(value, tuple) or len(value) != len(names):
        return False
    for k, triple in enumerate(value):
        if not isinstance(triple, tuple) or len(triple) != 3 or triple[0] != names[k]:
            return False
        if not is_whole(triple[1]) or not 0 <= triple[1] < m:
            return False
        if not is_whole(triple[2]) or triple[2] < 0:
            return False
    return True


def _machine_fault(plan, ends):
    for k, (name, machine, begin) in enumerate(plan):
        for other, beside, since in plan[k + 1:]:
            if machine == beside and begin < ends[other] and since < ends[name]:
                return ("machine", name, other)
    return None


def _units_fault(book, begins):
    # What is used gets more only when a job begins.
    for time in sorted(begins.values()):
        jobs = running(book, begins, time)
        for thing, units in book[0]:
            if used_units(jobs, thing) > units:
                return ("units", time, thing)
    return None


def dealt(book, begins):
    """Returns the plan with these begins in which each job gets the least machine that is free."""
    free_from = []
    plan = []
    for begin, name in sorted([(begin, name) for name, begin in begins]):
        free = [machine for machine, time in enumerate(free_from) if time <= begin]
        if not free:
            free = [len(free_from)]
            free_from.append(0)
        free_from[free[0]] = begin + job_of(book, name)[5]
        plan.append((name, free[0], begin))
    return tuple(sorted(plan))


def job_order(book):
    """Returns the tuple of all names, by urgency, the greatest first, then by rank, then by name."""
    rank_of = dict(ranks(book))
    rows = sorted([(-job[8], rank_of[job[0]], job[0]) for job in book[1]])
    return tuple(name for _, _, name in rows)


def _dealt_table(book, begins):
    return dealt(book, tuple(sorted(begins.items())))


def _has_room(book, m, job, begins, time):
    """Returns whether a job can run from a time on, through its length, beside those that have begins."""
    # There is less room only when a job begins.
    later = [begin for begin in begins.values() if time < begin < time + job[5]]
    for at in [time] + later:
        jobs = running(book, begins, at) + [job]
        if len(jobs) > m or not all(used_units(jobs, thing) <= units for thing, units in book[0]):
            return False
    return True


def list_plan(book, m):
    """Returns the plan in which each job begins as soon as it can when it is looked at, by job_order."""
    begins = {}
    ends = {}
    left = [job_of(book, name) for name in job_order(book)]
    time = 0
    while left:
        for job in left:
            ready = job[7] <= time and all(need in ends and ends[need] <= time for need in job[2])
            if ready and _has_room(book, m, job, begins, time):
                begins[job[0]] = time
                ends[job[0]] = time + job[5]
        left = [job for job in left if job[0] not in begins]
        # Until a job ends, or a start comes, nothing more can begin.
        coming = list(ends.values()) + [job[7] for job in left]
        time = min([at for at in coming if at > time])
    return _dealt_table(book, begins)


def _begin_in_turn(book, m, job, begins):
    """Returns the least time at which a job can begin beside, and behind, those that have begins."""
    ends = {other[0]: begins[other[0]] + other[5] for other in book[1] if other[0] in begins}
    time = max([job[7]] + [ends[need] for need in job[2]])
    while not _has_room(book, m, job, begins, time):
        # There is more room only when a job ends.
        time = min([end for end in ends.values() if end > time])
    return time


def turn_plan(book, m, order):
    """Returns the plan in which the jobs are taken in this order, each as early as there is room."""
    begins = {}
    for name in order:
        begins[name] = _begin_in_turn(book, m, job_of(book, name), begins)
    return _dealt_table(book, begins)


def least_plan(book, m):
    """Returns the shortest turn plan of all orders, and of these the least."""
    # Many orders come to the same begins: so these are kept, each once.
    tables = [()]
    for _ in book[1]:
        tables = sorted({longer for table in tables for longer in _with_one_more(book, m, table)})
    plans = [dealt(book, table) for table in tables]
    return min([(plan_length(book, plan), plan) for plan in plans])[1]


def _with_one_more(book, m, table):
    """Returns the list of the begins in which one more job is taken behind these, whichever can be."""
    begins = dict(table)
    left = [job for job in book[1] if job[0] not in begins]
    ready = [job for job in left if all(need in begins for need in job[2])]
    return [tuple(sorted(table + ((job[0], _begin_in_turn(book, m, job, begins)),))) for job in ready]


def longer_example():
    """Returns Graham's example: three machines, a book, and one of less work that takes longer."""
    return (3, _example_book(0), _example_book(1))


def _example_book(less):
    lengths = (3, 2, 2, 2, 4, 4, 4, 4, 9)
    needs = ((), (), (), (), ("d",), ("d",), ("d",), ("d",), ("a",))
    jobs = []
    for k, name in enumerate("abcdefghi"):
        jobs.append((name, "all", needs[k], ("value", None), (), lengths[k] - less, 1, 0, 0))
    return ((), tuple(jobs))
