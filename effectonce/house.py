"""A house: a world, the deeds that made it, and what it shows of it."""

from effectonce.checker import why_now
from effectonce.errors import BadScript, NothingDone
from effectonce.world import (
    after, calm, is_event, judge_world, left_over, new_world, outcomes_now, store_of, who_is_down,
)

CALM = ("calm",)


class House:
    """A world behind deeds that can be taken back, and done again."""

    def __init__(self, book, machines):
        self.book = book
        self.machines = machines
        # The worlds from the beginning on, each behind one deed more.
        self.worlds = [new_world(book, machines)]
        self.done = []
        # What was taken back, with the world behind it, the last one taken back at the end.
        self.undone = []

    def world(self):
        """Returns the world behind all deeds that stand done."""
        return self.worlds[-1]

    def deeds(self):
        """Returns the list of the deeds that stand done."""
        return list(self.done)

    def do(self, deed):
        """Does a deed, and returns how many stand done; raises BadScript(0) if it is none."""
        if deed == CALM:
            world = calm(self.world())[0]
        elif is_event(self.world(), deed):
            world = after(self.world(), deed)
        else:
            raise BadScript(0)
        self.done.append(deed)
        self.worlds.append(world)
        self.undone = []
        return len(self.done)

    def undo(self):
        """Takes the last deed back, and returns how many stand done; raises NothingDone if there is none."""
        if not self.done:
            raise NothingDone()
        self.undone.append((self.done.pop(), self.worlds.pop()))
        return len(self.done)

    def redo(self):
        """Does again what was taken back last, and returns how many stand done; raises NothingDone else."""
        if not self.undone:
            raise NothingDone()
        deed, world = self.undone.pop()
        self.done.append(deed)
        self.worlds.append(world)
        return len(self.done)

    def twin(self):
        """Returns a house that stands alike, and goes its own way."""
        other = House(self.book, self.machines)
        other.worlds = list(self.worlds)
        other.done = list(self.done)
        other.undone = list(self.undone)
        return other

    def outcomes(self):
        """Returns the ascending tuple of the pairs of each job that has ended and its outcome."""
        return outcomes_now(self.world())

    def left(self):
        """Returns the ascending tuple of the names of the jobs that have not ended."""
        return left_over(self.world())

    def down(self):
        """Returns the list of all who are down."""
        return who_is_down(self.world())

    def held(self):
        """Returns the ascending tuple of (job, fence, machine, attempt) of the store's holds."""
        holds = store_of(self.world())["holds"]
        return tuple((job, *holds[job][:3]) for job in sorted(holds))

    def stand(self):
        """Returns (time, moment, epoch, fence, letters), those of the store, and how many letters are in the air."""
        store = store_of(self.world())
        return (store["time"], store["moment"], store["epoch"], store["fence"], len(self.world()["air"]))

    def why(self, job):
        """Returns why a job stands as it does."""
        return why_now(store_of(self.world()), job)

    def right(self):
        """Returns whether nothing is wrong with the world."""
        return judge_world(self.world()) is None
