"""Lines of jobs that wait for one another: what no plan can be shorter than, and how far off one is."""

from effectonce.books import job_of, names_of_jobs, units_of
from effectonce.orders import in_order
from effectonce.plans import ends_by, list_plan, plan_length, running
from effectonce.values import is_whole
from effectonce.webs import is_row_of, needs_of


def _start_of(book, name):
    return job_of(book, name)[7]


def _lengths_of(book, names):
    """Returns the lengths of these jobs, added up."""
    return sum(job_of(book, name)[5] for name in names)


def _least_ending_at(ends, names, time):
    return min([name for name in names if ends[name] == time])


def earliest(book):
    """Returns the begins of all jobs if machines and units were endless."""
    begins = {}
    for name in in_order(book):
        ends = [begins[need] + job_of(book, need)[5] for need in needs_of(book, name)]
        begins[name] = max([_start_of(book, name)] + ends)
    return tuple(sorted(begins.items()))


def longest_line(book):
    """Returns the greatest end by the earliest begins, and a line that makes it so late."""
    begins = dict(earliest(book))
    if not begins:
        return (0, ())
    ends = ends_by(book, begins)
    last = max(ends.values())
    line = [_least_ending_at(ends, ends, last)]
    while begins[line[0]] > _start_of(book, line[0]):
        line.insert(0, _least_ending_at(ends, needs_of(book, line[0]), begins[line[0]]))
    return (last, tuple(line))


def _shown_by(book, m, paper):
    """Returns the length of which a paper shows that no right plan is shorter."""
    if paper[0] == "line":
        line = paper[1]
        return _start_of(book, line[0]) + _lengths_of(book, line) if line else 0
    if paper[0] == "work":
        return _divided_up(_lengths_of(book, names_of_jobs(book)), m)
    work = sum(job[5] * many for job in book[1] for name, many in job[4] if name == paper[1])
    return _divided_up(work, units_of(book, paper[1]))


def _divided_up(whole, by):
    """Returns the least integer that, taken so many times, is at least the whole."""
    return -(-whole // by)


def least_bound(book, m):
    """Returns the greatest length of which a paper shows that no plan is shorter, and the paper."""
    papers = [("line", longest_line(book)[1]), ("work",)]
    papers += [("thing", name) for name, units in book[0] if units > 0]
    shown = [_shown_by(book, m, paper) for paper in papers]
    return (max(shown), papers[shown.index(max(shown))])


def judge_bound(book, m, value):
    """Returns None if its paper shows that no right plan is shorter, else the first of its faults."""
    if not isinstance(value, tuple) or len(value) != 2:
        return ("form",)
    n, paper = value
    if not is_whole(n) or n < 0 or not _is_paper(book, paper):
        return ("form",)
    low = _shown_by(book, m, paper)
    return None if n <= low else ("shows", low)


def _is_paper(book, value):
    if value == ("work",):
        return True
    if not isinstance(value, tuple) or len(value) != 2:
        return False
    if value[0] == "thing":
        units = units_of(book, value[1])
        return units is not None and units > 0
    return value[0] == "line" and (value[1] == () or _is_line(book, value[1]))


def _is_line(book, value):
    if not is_row_of(value, names_of_jobs(book)):
        return False
    return all(value[k - 1] in needs_of(book, value[k]) for k in range(1, len(value)))


def line_of(book, m):
    """Returns the line that keeps the list plan on m machines from being shorter."""
    plan = list_plan(book, m)
    if not plan:
        return ()
    ends = ends_by(book, {name: begin for name, _, begin in plan})
    line = [_least_ending_at(ends, ends, max(ends.values()))]
    needs = needs_of(book, line[0])
    while needs:
        last = max([ends[need] for need in needs])
        if last < _start_of(book, line[0]):
            break
        line.insert(0, _least_ending_at(ends, needs, last))
        needs = needs_of(book, line[0])
    return tuple(line)


def judge_line(book, m, plan, value):
    """Returns None if all machines, or a job of the line, run at each time from its start on."""
    if value == () and not book[1]:
        return None
    if not _is_line(book, value):
        return ("form",)
    begins = {name: begin for name, _, begin in plan}
    length = plan_length(book, plan)
    if ends_by(book, begins)[value[-1]] != length:
        return ("last",)
    time = _first_idle(book, m, begins, value)
    return None if time == length else ("idle", time)


def _first_idle(book, m, begins, line):
    """Returns the least time from the line's start on with a machine idle and none of the line running.

    When the plan has ended it is so, at the latest.
    """
    start = _start_of(book, line[0])
    # It gets so only when a job ends.
    times = [start] + [end for end in ends_by(book, begins).values() if end > start]
    idle = []
    for time in times:
        names = [job[0] for job in running(book, begins, time)]
        if len(names) < m and not any(name in line for name in names):
            idle.append(time)
    return min(idle)


def line_bound(book, m, line):
    """Returns what m times the length of a plan is at most, if the plan has this line."""
    if not line:
        return 0
    work = _lengths_of(book, names_of_jobs(book))
    return m * _start_of(book, line[0]) + work + (m - 1) * _lengths_of(book, line)
