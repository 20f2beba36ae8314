"""A world that changes in place, made from the words of part 12 alone, over the functions of the parts ahead."""

from effectonce.keeper import bars_now, grants_now, keeper_again, keeper_back, keeper_does, keeper_hears, keeper_lapses
from effectonce.letters import goes_to
from effectonce.machines import fresh_machine, machine_again, machine_hears, machine_tells, machine_works, open_works
from effectonce.store import new_store, still_open, store_again, store_hears, ticked
from tests.word_oracles import naive_check, naive_read, naive_records, naive_word_text

STORE, KEEPER = ("store",), ("keeper",)


def sealed_words(words):
    texts = [naive_word_text(word) for word in words]
    return "".join(f"{len(text)}:{text}{naive_check(text)}" for text in texts)


def words_of(disk):
    return [naive_read(text)[1] for text in naive_records(disk)[0]]


class NaiveWorld:
    def __init__(self, told, machines):
        self.book, self.machines = told, machines
        self.everyone = [STORE, KEEPER] + [("machine", m) for m in range(machines)]
        self.ones = {who: None for who in self.everyone}
        self.disks = {who: "" for who in self.everyone}
        self.air = []
        for who in self.everyone:
            self.event(("back", who))

    def fields(self):
        return {"book": self.book, "machines": self.machines, "store": self.ones[STORE], "keeper": self.ones[KEEPER],
                "hands": {m: self.ones[("machine", m)] for m in range(self.machines)}, "disks": dict(self.disks), "air": tuple(self.air)}

    def down(self):
        return [who for who in self.everyone if self.ones[who] is None]

    def write(self, who, words, keep):
        if words:
            rest = naive_records(self.disks[who])[1]
            whole = self.disks[who][:len(self.disks[who]) - len(rest)]
            self.disks[who] = whole + (sealed_words(words) if keep is None else sealed_words(words)[:keep])

    def that_comes_back(self, who):
        words = words_of(self.disks[who])
        if who == STORE:
            return store_again(self.book, words), (), ()
        if who == KEEPER:
            keeper, kept, letters = keeper_back(self.book, self.machines, max([word[1] for word in words], default=0))
            return keeper, letters, kept
        return machine_again(who[1], words), (), ()

    def done(self, who, keep, told):
        """One does something, whole or torn: told is what becomes of them, their letters, their records."""
        one, letters, kept = told
        self.write(who, kept, keep)
        self.ones[who] = one if keep is None else None
        self.air += letters if keep is None else ()

    def event(self, event):
        keep = None
        if event[0] == "torn":
            event, keep = event[1:]
        getattr(self, event[0])(keep, *event[1:])

    def tick(self, keep):
        if self.ones[STORE] is not None:
            self.done(STORE, keep, (ticked(self.ones[STORE]), (), [("tick",)]))

    def keeper(self, keep):
        if self.ones[KEEPER] is not None:
            self.done(KEEPER, keep, keeper_does(self.ones[KEEPER]) + ((),))

    def again(self, keep):
        if self.ones[KEEPER] is not None:
            self.air += keeper_again(self.ones[KEEPER])
        for who in self.everyone[2:]:
            if self.ones[who] is not None:
                self.air += machine_tells(self.ones[who], self.book)[1]

    def lapse(self, keep, job):
        if self.ones[KEEPER] is not None and job in dict(self.ones[KEEPER]["holds"]):
            self.done(KEEPER, keep, keeper_lapses(self.ones[KEEPER], job) + ((),))

    def work(self, keep, m):
        who = ("machine", m)
        if self.ones[who] is not None:
            self.done(who, keep, machine_works(self.ones[who], self.book))

    def hear(self, keep, k):
        if not self.air:
            return
        letter = self.air.pop(k % len(self.air))
        who = goes_to(letter)
        if self.ones[who] is None:
            return
        if who == STORE:
            before = self.ones[STORE]
            now, answers = store_hears(before, letter)
            self.done(who, keep, (now, answers, [(before["time"], letter)] if now["moment"] > before["moment"] else []))
        elif who == KEEPER:
            self.done(who, keep, keeper_hears(self.ones[KEEPER], letter) + ((),))
        else:
            self.done(who, keep, machine_hears(self.ones[who], self.book, letter))

    def lose(self, keep, k):
        if self.air:
            self.air.pop(k % len(self.air))

    def double(self, keep, k):
        if self.air:
            self.air.append(self.air[k % len(self.air)])

    def fall(self, keep, who):
        self.ones[who] = None

    def back(self, keep, who):
        if self.ones[who] is None:
            self.done(who, keep, self.that_comes_back(who))

    def next_of_calm(self):
        if self.down():
            return ("back", self.down()[0])
        if self.air:
            return ("hear", 0)
        hands = [self.ones[who] for who in self.everyone[2:]]
        for m, hand in enumerate(hands):
            if open_works(hand, self.book):
                return ("work", m)
        keeper, store = self.ones[KEEPER], self.ones[STORE]
        if keeper["phase"] == "run" and not keeper["open"]:
            if grants_now(keeper) or bars_now(keeper) or keeper["moment"] != store["moment"] or keeper["time"] != store["time"]:
                return ("keeper",)
        if keeper["phase"] != "run" or keeper["open"] or keeper["holds"] or any(hand["works"] for hand in hands):
            return ("again",)
        return ("tick",) if still_open(store) else None

    def calm(self):
        """The list of the events until all is calm."""
        events = []
        while self.next_of_calm() is not None:
            events.append(self.next_of_calm())
            self.event(events[-1])
        return events


def naive_fresh(told, machines):
    """The world at the beginning, by its fields."""
    keeper, kept, letters = keeper_back(told, machines, 0)
    disks = {STORE: "", KEEPER: sealed_words(kept), **{("machine", m): "" for m in range(machines)}}
    return {"book": told, "machines": machines, "store": new_store(told), "keeper": keeper,
            "hands": {m: fresh_machine(m) for m in range(machines)}, "disks": disks, "air": letters}
