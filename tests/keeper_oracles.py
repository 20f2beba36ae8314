"""A keeper of sets and dicts that change, made from the words of part 9 alone; and stores and keepers driven against one another."""

from effectonce.keeper import keeper_again, keeper_back, keeper_does, keeper_hears, keeper_lapses
from effectonce.store import new_store, store_hears, ticked
from tests.oracles import naive_worth
from tests.plan_oracles import naive_job_order


class NaiveKeeper:
    def __init__(self, told, machines, epoch):
        self.book, self.machines, self.epoch = told, machines, epoch
        self.jobs = {each[0]: each for each in told[1]}
        self.order = naive_job_order(told)
        self.phase, self.moment, self.time, self.fence = "take", 0, 0, 0
        self.holds, self.ends, self.barred = {}, {}, {}
        self.asked = [("take", epoch)]

    def fields(self):
        return {"book": self.book, "machines": self.machines, "epoch": self.epoch, "phase": self.phase, "moment": self.moment,
                "time": self.time, "fence": self.fence, "holds": tuple(sorted(self.holds.items())), "ends": tuple(sorted(self.ends.items())),
                "barred": tuple(sorted(self.barred.items())), "open": tuple(self.asked)}

    def outcome(self, name):
        words = [end[0] for end in self.ends.get(name, ())]
        if words and words[-1] == "done":
            return "done"
        if words.count("failed") == self.jobs[name][6]:
            return "failed"
        return "barred" if name in self.barred else None

    def results(self, name):
        return tuple(sorted((need, self.ends[need][-1][5] if self.outcome(need) == "done" else None) for need in self.jobs[name][2]))

    def granting(self, place):
        return {letter[place] for letter in self.asked if letter[0] == "grant"}

    def free(self):
        taken = set(self.holds) | self.granting(2)
        return tuple((thing, units - sum(dict(self.jobs[name][4]).get(thing, 0) for name in taken)) for thing, units in self.book[0])

    def idle(self):
        return tuple(sorted(set(range(self.machines)) - {hold[1] for hold in self.holds.values()} - self.granting(4)))

    def untouched(self, name):
        about = {letter[2] for letter in self.asked if letter[0] in ("grant", "free", "bar")}
        return self.outcome(name) is None and name not in self.holds and name not in about

    def ready(self, name):
        told = self.jobs[name]
        outcomes = {self.outcome(need) for need in told[2]}
        served = outcomes <= {"done"} if told[1] == "all" else None not in outcomes
        return self.untouched(name) and told[7] <= self.time and served

    def bar_of(self, name):
        told = self.jobs[name]
        for k, need in enumerate(told[2]):
            lesser = {self.outcome(other) for other in told[2][:k]}
            if told[1] == "all" and self.untouched(name) and self.outcome(need) in ("failed", "barred") and lesser <= {"done"}:
                return need
        return None

    def bars(self):
        return [("bar", self.epoch, name, self.bar_of(name)) for name in sorted(self.jobs) if self.bar_of(name)]

    def grants(self):
        free, idle, found = dict(self.free()), list(self.idle()), []
        for name in self.order:
            uses = self.jobs[name][4]
            if self.ready(name) and idle and min([free[thing] - units for thing, units in uses] + [0]) >= 0:
                found.append(("grant", self.epoch, name, self.fence + len(found) + 1, idle[0]))
                idle = idle[1:]
                free.update({thing: free[thing] - units for thing, units in uses})
        return found

    def asks(self, *letters):
        self.asked += letters
        return list(letters)

    def is_asking(self):
        return ("ask", self.epoch) in self.asked

    def does(self):
        if self.phase != "run" or self.is_asking():
            return []
        grants = self.grants()
        letters = self.bars() + grants + [("ask", self.epoch)]
        self.fence += len(grants)
        return self.asks(*letters)

    def lapses(self, name):
        letter = ("free", self.epoch, name, self.holds.get(name, (None,))[0])
        if self.phase != "run" or name not in self.holds or letter in self.asked:
            return []
        return self.asks(letter)

    def works(self, names):
        return [("work", self.epoch, self.holds[name][1], name, self.holds[name][0], self.holds[name][2], self.results(name))
                for name in sorted(names)]

    def again(self):
        return self.asked + (self.works(self.holds) if self.phase == "run" else [])

    def hears(self, letter):
        if letter[1] != self.epoch or letter[0] not in ("taken", "told", "granted", "freed", "barred", "no"):
            return []
        return getattr(self, "hears_" + letter[0])(*letter[2:])

    def closes(self, *letters):
        """Whether one of these was open; none of them is any more."""
        before = len(self.asked)
        self.asked = [each for each in self.asked if each not in letters]
        return len(self.asked) < before

    def then_asks(self, changed):
        return self.asks(("ask", self.epoch)) if changed and not self.is_asking() else []

    def hears_taken(self):
        if self.phase != "take":
            return []
        self.closes(("take", self.epoch))
        self.phase = "ask"
        return self.asks(("ask", self.epoch))

    def hears_granted(self, name, fence, machine, attempt, results):
        if not self.closes(("grant", self.epoch, name, fence, machine)):
            return []
        self.holds[name] = (fence, machine, attempt)
        return [("work", self.epoch, machine, name, fence, attempt, results)]

    def hears_freed(self, name, fence):
        changed = self.closes(("free", self.epoch, name, fence))
        if name in self.holds and self.holds[name][0] == fence:
            del self.holds[name]
            changed = True
        return self.then_asks(changed)

    def hears_barred(self, name):
        for letter in self.asked:
            if letter[0] == "bar" and letter[2] == name:
                self.barred[name] = letter[3]
                return self.then_asks(self.closes(letter))
        return []

    def hears_no(self, letter):
        return self.then_asks(self.closes(letter))

    def hears_told(self, moment, time, fence, holds, ends, barred):
        if self.phase == "take" or moment < self.moment:
            return []
        if self.phase == "run" and moment == self.moment:
            self.time = max(time, self.time)
            self.closes(("ask", self.epoch))
            return []
        asking, known = self.phase == "ask", self.holds
        granting = {letter[2:4] for letter in self.asked if letter[0] == "grant"}
        self.phase, self.moment, self.time, self.ends = "run", moment, time, dict(ends)
        self.barred = {**dict(barred), **self.barred}
        self.fence = max(self.fence, fence)
        taken = {name: hold[:3] for name, hold in holds
                 if asking or (name, hold[0]) in granting | {(job, old[0]) for job, old in known.items()}}
        kept = {name: hold for name, hold in known.items() if name not in taken and hold[0] > fence and self.outcome(name) is None}
        self.holds = taken if asking else {**kept, **taken}
        self.closes(("ask", self.epoch))
        self.closes(*[each for each in self.asked if each[0] == "grant" and each[3] <= fence])
        self.closes(*[each for each in self.asked if each[0] == "free" and self.holds.get(each[2], (None,))[0] != each[3]])
        self.closes(*[each for each in self.asked if each[0] == "bar" and each[2] in self.barred])
        return self.works([name for name, hold in self.holds.items() if known.get(name, (None,))[0] != hold[0]])


class Run:
    """A store, keepers that follow one another, and letters that are lost, doubled and late between them.

    Machines are no more than ends that are told of some hold of the store. What befell the newest
    keeper last stands in "step": (word, the keeper before, what it heard or which job lapsed, its letters).
    """

    def __init__(self, chance, told, machines):
        self.chance, self.book, self.machines = chance, told, machines
        self.store = new_store(told)
        self.air, self.old, self.last = (), [], 0
        self.comes()

    def comes(self):
        self.keeper, _, letters = keeper_back(self.book, self.machines, self.last)
        self.last = self.keeper["epoch"]
        self.air += letters
        self.step = ("comes", None, None, letters)

    def goes_on(self, word, keeper, letters, told=None):
        self.step = (word, self.keeper, told, letters)
        self.keeper = keeper
        self.air += letters

    def one_step(self):
        chance, self.step = self.chance, None
        pick = chance.randrange(100)
        if pick == 0 and chance.randrange(2):
            self.old = (self.old + [self.keeper])[-2:]
            self.comes()
        elif pick < 6:
            self.store = ticked(self.store)
        elif pick < 18:
            self.goes_on("does", *keeper_does(self.keeper))
        elif pick < 22:
            self.goes_on("again", self.keeper, keeper_again(self.keeper))
        elif pick < 26:
            name = chance.choice([job for job, _ in self.keeper["holds"]] or ["none"])
            self.goes_on("lapses", *keeper_lapses(self.keeper, name), name)
        elif pick < 32 and self.store["holds"]:
            self.ends()
        elif pick < 34 and self.old:
            # An old keeper that does not know yet that it is one.
            k = chance.randrange(len(self.old))
            self.old[k], letters = keeper_does(self.old[k])
            self.air += letters
        elif self.air:
            self.delivers(chance.choice((0, 0, chance.randrange(len(self.air)))))
        if len(self.air) > 40:
            self.air = tuple(chance.sample(self.air, 12))

    def ends(self):
        name = self.chance.choice(sorted(self.store["holds"]))
        fence, machine, attempt = self.store["holds"][name][:3]
        command = [job[3] for job in self.book[1] if job[0] == name][0]
        results = [(need, ends[-1][5]) for need, ends in self.store["ends"].items() if ends[-1][0] == "done"]
        outcome = naive_worth(command, results, attempt)
        self.store = store_hears(self.store, ("end", machine, name, fence, attempt, outcome))[0]

    def delivers(self, k):
        letter = self.air[k]
        pick = self.chance.randrange(10)
        if pick > 0:
            self.air = self.air[:k] + self.air[k + 1:]
        if pick == 1:
            return
        if letter[0] in ("take", "grant", "free", "bar", "ask"):
            self.store, answers = store_hears(self.store, letter)
            self.air += answers
        elif letter[0] != "work":
            for at, old in enumerate(self.old):
                self.old[at], letters = keeper_hears(old, letter)
                self.air += letters
            self.goes_on("hears", *keeper_hears(self.keeper, letter), letter)
