"""Slow, plain ways to plans, lines and calendars, made from the document's words alone: time by time."""

import itertools

from tests.samples import book, job


def by_name(value):
    return {each[0]: each for each in value[1]}


def ends_of(value, begins):
    jobs = by_name(value)
    return {name: begin + jobs[name][5] for name, begin in begins.items()}


def runs_at(value, begins, time):
    """The names of the jobs that run at a time."""
    ends = ends_of(value, begins)
    return [name for name in begins if begins[name] <= time < ends[name]]


def used_at(value, begins, time, thing):
    jobs = by_name(value)
    return sum(dict(jobs[name][4]).get(thing, 0) for name in runs_at(value, begins, time))


def naive_fault(value, m, plan):
    """The first fault of what has the form of a plan, None if it is right."""
    begins = {name: begin for name, machine, begin in plan}
    on = {name: machine for name, machine, begin in plan}
    ends = ends_of(value, begins)
    length = max(ends.values(), default=0)
    late = [name for name in sorted(begins) if begins[name] < by_name(value)[name][7]]
    if late:
        return ("start", late[0])
    early = [(name, need) for name in sorted(begins) for need in by_name(value)[name][2] if ends[need] > begins[name]]
    if early:
        return ("needs",) + early[0]
    beside = [(name, other) for name in sorted(begins) for other in sorted(begins) if name < other and on[name] == on[other]
              and set(range(begins[name], ends[name])) & set(range(begins[other], ends[other]))]
    if beside:
        return ("machine",) + beside[0]
    for time in range(length):
        for thing, units in value[0]:
            if used_at(value, begins, time, thing) > units:
                return ("units", time, thing)
    return None


def naive_dealt(value, begins):
    on = {}
    for name in sorted(begins, key=lambda each: (begins[each], each)):
        busy = {on[other] for other in runs_at(value, {o: begins[o] for o in on}, begins[name])}
        on[name] = min(set(range(len(begins))) - busy)
    return tuple((name, on[name], begins[name]) for name in sorted(begins))


def naive_rank(jobs, name):
    return max([naive_rank(jobs, need) + 1 for need in jobs[name][2]], default=0)


def naive_job_order(value):
    jobs = by_name(value)
    return tuple(sorted(jobs, key=lambda name: (-jobs[name][8], naive_rank(jobs, name), name)))


def naive_list_begins(value, m):
    jobs = by_name(value)
    begins = {}
    time = 0
    while len(begins) < len(jobs):
        for name in naive_job_order(value):
            each = jobs[name]
            ends = ends_of(value, begins)
            if name in begins or each[7] > time or len(runs_at(value, begins, time)) >= m:
                continue
            if not all(need in ends and ends[need] <= time for need in each[2]):
                continue
            if all(used_at(value, begins, time, thing) + many <= dict(value[0])[thing] for thing, many in each[4]):
                begins[name] = time
        time += 1
    return begins


def naive_turn_begins(value, m, order):
    jobs = by_name(value)
    begins = {}
    for name in order:
        each = jobs[name]
        ends = ends_of(value, begins)
        time = max([each[7]] + [ends[need] for need in each[2]])
        while not all(len(runs_at(value, begins, at)) < m
                      and all(used_at(value, begins, at, thing) + many <= dict(value[0])[thing] for thing, many in each[4])
                      for at in range(time, time + each[5])):
            time += 1
        begins[name] = time
    return begins


def all_orders(value):
    jobs = by_name(value)
    for order in itertools.permutations(sorted(jobs)):
        if all(need in order[:k] for k, name in enumerate(order) for need in jobs[name][2]):
            yield order


def length_of(value, begins):
    return max(ends_of(value, begins).values(), default=0)


def naive_least_plan(value, m):
    plans = []
    for order in all_orders(value):
        begins = naive_turn_begins(value, m, order)
        plans.append((length_of(value, begins), naive_dealt(value, begins)))
    return min(plans)[1]


def naive_is_line(value, line):
    jobs = by_name(value)
    return isinstance(line, tuple) and len(line) > 0 and all(isinstance(name, str) and name in jobs for name in line) and \
        all(one in jobs[other][2] for one, other in zip(line, line[1:]))


def naive_judge_line(value, m, plan, line):
    """The first fault of what is a line."""
    begins = {name: begin for name, machine, begin in plan}
    length = length_of(value, begins)
    if ends_of(value, begins)[line[-1]] != length:
        return ("last",)
    for time in range(by_name(value)[line[0]][7], length):
        names = runs_at(value, begins, time)
        if len(names) < m and not set(names) & set(line):
            return ("idle", time)
    return None


def all_lines(value):
    jobs = by_name(value)
    lines = [(name,) for name in jobs]
    for line in lines:
        lines += [(need,) + line for need in jobs[line[0]][2]]
    return lines


def random_work(chance, many, things=True, starts=12, thick=30, longest=6):
    """A right book for plans: short lengths, early starts."""
    names = sorted(chance.sample("abcdefghijklmnopqrstuvwxyz", many))
    order = names[:]
    chance.shuffle(order)
    there = (("pen", chance.randint(1, 3)), ("saw", 2), ("zip", 0)) if things else ()
    jobs = {}
    for k, name in enumerate(order):
        needs = [other for other in order[:k] if chance.randrange(100) < thick]
        uses = [(thing, chance.randint(1, units)) for thing, units in there if units and chance.randrange(2)]
        # Plans look at no mode, no command and no tries.
        mode, command, tries = chance.choice(("all", "ended")), ("value", chance.randrange(9)), chance.randint(1, 5)
        jobs[name] = job(name, sorted(needs), command, mode, uses, chance.randint(1, longest), tries,
                         chance.randint(0, starts) if chance.randrange(2) else 0, chance.choice((0, 0, 3, -3)))
    return book(*[jobs[name] for name in names], things=there)


def random_order(chance, value):
    """An order of all names, each behind its needs."""
    jobs = by_name(value)
    order = []
    while len(order) < len(jobs):
        order.append(chance.choice([name for name in jobs if name not in order and set(jobs[name][2]) <= set(order)]))
    return tuple(order)


def random_right_plan(chance, value, m):
    """A right plan with needless waiting here and there: the jobs taken in turn, some later than they could."""
    jobs = by_name(value)
    begins = {}
    for name in random_order(chance, value):
        each = jobs[name]
        ends = ends_of(value, begins)
        time = max([each[7]] + [ends[need] for need in each[2]]) + chance.choice((0, 0, 1, 3))
        while not all(len(runs_at(value, begins, at)) < m
                      and all(used_at(value, begins, at, thing) + many <= dict(value[0])[thing] for thing, many in each[4])
                      for at in range(time, time + each[5])):
            time += 1
        begins[name] = time
    return naive_dealt(value, begins)


def times_of(c, high):
    """The set of a calendar's times below high, by plain recursion."""
    word = c[0]
    if word == "every":
        return {t for t in range(high) if t >= c[2] and (t - c[2]) % c[1] == 0 and (c[3] is None or t <= c[3])}
    if word == "list":
        return {t for t in c[1] if t < high}
    if word == "moved":
        return {t + c[2] for t in times_of(c[1], high - c[2])} if high > c[2] else set()
    one, other = times_of(c[1], high), times_of(c[2], high)
    return {"both": one | other, "common": one & other, "without": one - other}[word]


def random_calendar(chance, deep, periods=(1, 2, 3, 4, 6, 12), latest=20):
    """A calendar with small numbers, so that all that it does is seen soon."""
    pick = chance.randrange(7)
    if deep == 0 or pick < 3:
        if chance.randrange(3) == 0:
            return ("list", tuple(sorted(chance.sample(range(latest), chance.randrange(5)))))
        end = chance.choice((None, None, chance.randint(0, 2 * latest)))
        return ("every", chance.choice(periods), chance.randint(0, latest), end)
    if pick == 3:
        return ("moved", random_calendar(chance, deep - 1, periods, latest), chance.randint(0, latest))
    word = ("both", "common", "without")[pick - 4]
    return (word, random_calendar(chance, deep - 1, periods, latest), random_calendar(chance, deep - 1, periods, latest))
