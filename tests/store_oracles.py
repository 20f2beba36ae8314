"""A store that keeps nothing but the rows of what was written, and reckons all else from them."""

from tests.oracles import naive_worth
from tests.samples import TWO_PARTS, job, book


class Rows:
    """Row number k - 1 is what was written with the moment k: (what, time, ..)."""

    def __init__(self, told):
        self.book = told
        self.jobs = {each[0]: each for each in told[1]}
        self.time = 0
        self.rows = []

    def moment(self):
        return len(self.rows)

    def epoch(self):
        return max([row[2] for row in self.rows if row[0] == "take"], default=0)

    def fence(self):
        return max([row[3] for row in self.rows if row[0] == "grant"], default=0)

    def numbered(self, word, name=None):
        return [(k + 1, row) for k, row in enumerate(self.rows) if row[0] == word and name in (None, row[2])]

    def holds(self):
        gone = [row[3] for row in self.rows if row[0] in ("free", "end")]
        return {row[2]: (row[3], row[4], self.attempt(row[2]), k, row[1])
                for k, row in self.numbered("grant") if row[3] not in gone}

    def granted_by(self, fence):
        return [(k, row) for k, row in self.numbered("grant") if row[3] == fence][0]

    def ends(self):
        found = {}
        for k, row in self.numbered("end"):
            begun, grant = self.granted_by(row[3])
            found[row[2]] = found.get(row[2], ()) + ((row[4], row[3], begun, grant[1], k, row[5]),)
        return found

    def barred(self):
        return {row[2]: row[3] for k, row in self.numbered("bar")}

    def freed(self):
        found = []
        for k, row in self.numbered("free"):
            begun, grant = self.granted_by(row[3])
            attempt = len([1 for at, end in self.numbered("end", row[2]) if at < begun]) + 1
            found.append((row[3], row[2], grant[4], attempt, begun, grant[1], k))
        return tuple(sorted(found))

    def fields(self):
        return {"book": self.book, "time": self.time, "epoch": self.epoch(), "moment": self.moment(), "fence": self.fence(),
                "holds": self.holds(), "ends": self.ends(), "barred": self.barred(), "freed": self.freed()}

    def attempt(self, name):
        return len(self.numbered("end", name)) + 1

    def outcome(self, name):
        if name in self.barred():
            return ("barred", self.barred()[name])
        ends = [row for k, row in self.numbered("end", name)]
        done = [k for k, row in enumerate(ends) if row[4] == "done"]
        if done:
            return ("done", done[0] + 1, ends[done[0]][5])
        return ("failed", len(ends)) if len(ends) == self.jobs[name][6] else None

    def done(self, name):
        return (self.outcome(name) or ("",))[0] == "done"

    def results(self, name):
        return tuple((need, self.outcome(need)[2] if self.done(need) else None) for need in sorted(self.jobs[name][2]))

    def free(self):
        held = [self.jobs[name] for name in self.holds()]
        return tuple((thing, units - sum(dict(each[4]).get(thing, 0) for each in held)) for thing, units in self.book[0])

    def bars(self, name):
        if name not in self.jobs:
            return ("job",)
        told = self.jobs[name]
        lacking = [need for need in sorted(told[2]) if not (self.done(need) if told[1] == "all" else self.outcome(need))]
        short = [thing for thing, units in sorted(told[4]) if units > dict(self.free())[thing]]
        reasons = [("ended",)] * (self.outcome(name) is not None) + [("held",)] * (name in self.holds())
        reasons += [("early", told[7])] * (told[7] > self.time) + [("need", need) for need in lacking]
        reasons += [("units", thing) for thing in short] + [None]
        return reasons[0]

    def bar_need(self, name):
        told = self.jobs[name]
        lacking = [need for need in sorted(told[2]) if not self.done(need)]
        if told[1] == "all" and self.outcome(name) is None and lacking and self.outcome(lacking[0]):
            return lacking[0]
        return None

    def hear(self, letter):
        """The answer; what is written becomes a row."""
        word = letter[0]
        if word == "end":
            return self.hear_end(*letter[1:])
        epoch = letter[1]
        no = ("no", self.epoch(), letter)
        if word == "take":
            if epoch > self.epoch():
                self.rows.append(("take", self.time, epoch))
            return ("taken", epoch) if epoch >= no[1] else no
        if epoch != self.epoch():
            return no
        if word == "ask":
            tables = [tuple(sorted(each.items())) for each in (self.holds(), self.ends(), self.barred())]
            return ("told", epoch, self.moment(), self.time, self.fence(), *tables)
        return getattr(self, "hear_" + word)(*letter[1:]) or no

    def hear_grant(self, epoch, name, fence, machine):
        if self.holds().get(name, ())[:2] != (fence, machine):
            if self.bars(name) or fence <= self.fence():
                return None
            self.rows.append(("grant", self.time, name, fence, machine))
        return ("granted", epoch, name, fence, machine, self.attempt(name), self.results(name))

    def hear_free(self, epoch, name, fence):
        if self.holds().get(name, (None,))[0] == fence:
            self.rows.append(("free", self.time, name, fence))
        return ("freed", epoch, name, fence) if fence <= self.fence() else None

    def hear_bar(self, epoch, name, need):
        if self.barred().get(name) != need:
            if name not in self.jobs or self.bar_need(name) != need:
                return None
            self.rows.append(("bar", self.time, name, need))
        return ("barred", epoch, name)

    def hear_end(self, machine, name, fence, attempt, outcome):
        if self.holds().get(name, ())[:3] == (fence, machine, attempt):
            self.rows.append(("end", self.time, name, fence, outcome[0], outcome[1] if outcome[0] == "done" else None))
        word = "ended" if fence in [row[3] for k, row in self.numbered("end", name)] else "refused"
        return (word, machine, name, fence)


def store_book(chance, many, starts=4):
    """A right book for runs of a store: small starts, some tries, few units, commands that fail now and then."""
    names = sorted(chance.sample("abcdefghijklmnopqrstuvwxyz", many))
    order = names[:]
    chance.shuffle(order)
    things = (("pen", chance.randint(1, 2)), ("saw", 2))
    jobs = {}
    for k, name in enumerate(order):
        needs = sorted(other for other in order[:k] if chance.randrange(100) < 35)
        command = ("value", chance.choice((None, 7, "x")))
        for need in needs:
            command = (chance.choice(TWO_PARTS), ("result", need), command)
        if chance.randrange(3) == 0:
            command = ("demand", ("below", ("value", chance.randint(0, 3)), ("attempt",)), command)
        uses = [(thing, chance.randint(1, units)) for thing, units in things if chance.randrange(2)]
        jobs[name] = job(name, needs, command, chance.choice(("all", "ended")), uses, 1, chance.randint(1, 3),
                         chance.choice((0, chance.randint(0, starts))))
    return book(*[jobs[name] for name in names], things=things)


def due_end(rows, name):
    """What an end of the attempt that is held tells, if the machine works as the book means it."""
    answer = naive_worth(rows.jobs[name][3], rows.results(name), rows.attempt(name))
    return answer if answer[0] == "done" else ("failed",)


def fitting_letters(chance, rows, true_ends):
    """Letters that change the store just now: bars, grants, ends."""
    fitting = [("bar", rows.epoch(), name, rows.bar_need(name)) for name in rows.jobs if rows.bar_need(name)]
    if not fitting:
        fitting = [("grant", rows.epoch(), name, rows.fence() + 1, chance.randrange(4)) for name in rows.jobs if rows.bars(name) is None]
    for name, hold in rows.holds().items():
        outcome = due_end(rows, name) if true_ends else chance.choice((("failed",), ("failed",), ("done", 5)))
        fitting.append(("end", hold[1], name, hold[0], hold[2], outcome))
    return fitting if rows.epoch() else [("take", 1)]


def random_letter(chance, rows, true_ends=False):
    """A letter that may be right, or near what would be right, just now."""
    fitting = fitting_letters(chance, rows, true_ends)
    if fitting and chance.randrange(3) == 0:
        return chance.choice(fitting)
    word = chance.choice(("take", "grant", "grant", "grant", "grant", "free", "bar", "bar", "end", "end", "end", "end", "ask"))
    name = chance.choice(list(rows.jobs) if chance.randrange(20) else ["none"])
    holds = rows.holds()
    if holds and chance.randrange(3) and word in ("free", "end"):
        name = chance.choice(sorted(holds))
    hold = holds.get(name, (chance.randint(1, rows.fence() + 2), chance.randrange(4), 1))
    fence = chance.choice([hold[0]] * 5 + [max(1, rows.fence()), rows.fence() + 1, chance.randint(1, rows.fence() + 3)])
    if word == "grant":
        fence = chance.choice([rows.fence() + 1] * 6 + [rows.fence() + 3, fence, hold[0]])
    machine = chance.choice([hold[1]] * 6 + [chance.randrange(8)])
    if word == "end":
        attempt = chance.choice([hold[2]] * 6 + [chance.randint(1, 3)])
        if true_ends and name in holds:
            return ("end", machine, name, fence, attempt, due_end(rows, name))
        return ("end", machine, name, fence, attempt, chance.choice((("failed",), ("done", chance.choice((None, 5, "y"))))))
    epoch = max(1, rows.epoch() + chance.choice([0] * 12 + [-1, 1]))
    if word == "take":
        return (word, max(1, rows.epoch() + chance.choice((-1, 0, 0, 1))))
    if word == "ask":
        return (word, epoch)
    if word == "bar":
        needs = rows.jobs[name][2] if name in rows.jobs else ()
        return (word, epoch, name, chance.choice(list(needs) + ["none"] if chance.randrange(4) or not needs else list(needs)))
    return (word, epoch, name, fence) + ((machine,) if word == "grant" else ())
