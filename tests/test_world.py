"""Part 12: worlds, their events, what holds behind each of them, and that they come to an end."""

import random
import unittest

from effectonce.disks import torn, words_on, written
from effectonce.errors import BadScript
from effectonce.keeper import bars_now, grants_now, keeper_again, keeper_back, keeper_does, keeper_hears
from effectonce.machines import fresh_machine, machine_hears, machine_works
from effectonce.meaning import outcomes
from effectonce.store import new_store, still_open, store_again, store_hears, ticked
from effectonce.world import (after, calm, is_event, judge_world, left_over, new_world, outcomes_now, played, store_of, who_is_down)
from tests.samples import ODD_VALUES, book, job, nested
from tests.world_oracles import NaiveWorld, naive_fresh, sealed_words
from tests.world_samples import MOODS, random_event, world_book

STORE, KEEPER = ("store",), ("keeper",)
A = job("a", (), ("value", 2))
B = job("b", ("a",), ("plus", ("result", "a"), ("attempt",)), length=2, tries=3)
C = job("c", (), ("demand", ("value", 0), ("value", 1)), tries=2)
D = job("d", ("b", "c"), ("value", 7))
BOOK = book(A, B, C, D)


def hand(m):
    return ("machine", m)


def started(told=BOOK, machines=2):
    """A world in which the store has taken the keeper, told it all, and granted a on the machine 0, with the work in the air."""
    world = played(new_world(told, machines), [("hear", 0)] * 4 + [("keeper",)])
    grants = [k for k, letter in enumerate(world["air"]) if letter[0] == "grant"]
    world = played(world, [("hear", grants[0])] + [("lose", 0)] * (len(world["air"]) - 1))
    return after(world, ("hear", 0))


def ended():
    """A world in which a is done, nothing is held, and the answer to the machine is in the air."""
    return played(started(), [("hear", 0), ("work", 0), ("hear", 0)])


class Test(unittest.TestCase):
    def assert_changes(self, world, event, **fields):
        """The event changes just these fields."""
        now = after(world, event)
        self.assertEqual(now, dict(world, **fields))
        self.assertEqual(list(now), ["book", "machines", "store", "keeper", "hands", "disks", "air"])
        return now

    def assert_nothing(self, world, *events):
        for event in events:
            self.assertEqual(after(world, event), world, event)

    def assert_bad(self, number, call, *arguments):
        with self.assertRaises(BadScript) as caught:
            call(*arguments)
        self.assertEqual(caught.exception.number, number)

    def disks(self, world, who, words, keep=10 ** 9):
        return world["disks"] | {who: torn(world["disks"][who], words, keep)}


class Beginning(Test):
    """[12.1]"""

    def test_the_fields(self):
        for machines in (1, 2, 8):
            world = new_world(BOOK, machines)
            self.assertEqual(list(world), ["book", "machines", "store", "keeper", "hands", "disks", "air"])
            keeper, kept, letters = keeper_back(BOOK, machines, 0)
            self.assertEqual(world["book"], BOOK)
            self.assertEqual(world["machines"], machines)
            self.assertEqual(world["store"], new_store(BOOK))
            self.assertEqual(world["keeper"], keeper)
            self.assertEqual(world["hands"], {m: fresh_machine(m) for m in range(machines)})
            self.assertEqual(world["disks"], {STORE: "", KEEPER: written("", [("epoch", 1)]), **{hand(m): "" for m in range(machines)}})
            self.assertEqual(world["air"], (("take", 1),))
            self.assertEqual(world, naive_fresh(BOOK, machines))


class Events(Test):
    """[12.2], event by event."""

    def test_tick(self):
        world = started()
        now = self.assert_changes(world, ("tick",), store=ticked(world["store"]), disks=self.disks(world, STORE, [("tick",)]))
        now = after(now, ("tick",))
        self.assertEqual((now["store"]["time"], words_on(now["disks"][STORE])[-2:]), (2, (("tick",), ("tick",))))
        self.assert_nothing(after(world, ("fall", STORE)), ("tick",))

    def test_keeper(self):
        world = played(new_world(BOOK, 2), [("hear", 0)] * 4)
        self.assertEqual((world["keeper"]["phase"], world["air"]), ("run", ()))
        keeper, letters = keeper_does(world["keeper"])
        world = dict(world, air=(("take", 1),))
        now = self.assert_changes(world, ("keeper",), keeper=keeper, air=(("take", 1),) + letters)
        self.assertEqual(letters, (("grant", 1, "a", 1, 0), ("grant", 1, "c", 2, 1), ("ask", 1)))
        # While the ask is open it does nothing.
        self.assert_nothing(now, ("keeper",))
        self.assert_nothing(after(world, ("fall", KEEPER)), ("keeper",))

    def test_again(self):
        # The keeper first, then the machines, ascending.
        world = started(machines=3)
        world = played(world, [("double", 0), ("hear", 0), ("hear", 0), ("work", 0)])
        take = ("work", 1, 2, "c", 90, 1, ())
        late = machine_works(machine_hears(world["hands"][2], BOOK, take)[0], BOOK)[0]
        world = dict(world, hands=world["hands"] | {2: late}, air=(("take", 9),))
        ends = (("end", 0, "a", 1, 1, ("done", 2)), ("end", 2, "c", 90, 1, ("failed",)))
        kept = keeper_again(world["keeper"])
        self.assertEqual(kept[-1], ("work", 1, 0, "a", 1, 1, ()))
        self.assertEqual(kept[:-1], world["keeper"]["open"])
        self.assert_changes(world, ("again",), air=(("take", 9),) + kept + ends)
        self.assert_changes(after(world, ("fall", KEEPER)), ("again",), air=(("take", 9),) + ends)
        self.assert_changes(after(world, ("fall", hand(0))), ("again",), air=(("take", 9),) + kept + ends[1:])
        self.assert_changes(after(world, ("fall", STORE)), ("again",), air=(("take", 9),) + kept + ends)
        down = played(world, [("fall", KEEPER), ("fall", hand(0)), ("fall", hand(2))])
        self.assert_nothing(down, ("again",))

    def test_lapse(self):
        world = started()
        free = ("free", 1, "a", 1)
        keeper = dict(world["keeper"], open=world["keeper"]["open"] + (free,))
        now = self.assert_changes(world, ("lapse", "a"), keeper=keeper, air=world["air"] + (free,))
        self.assert_nothing(now, ("lapse", "a"))
        # No job that is held, as known; no job at all.
        self.assert_nothing(world, ("lapse", "b"), ("lapse", "c"), ("lapse", "zzz"), ("lapse", "abcdefgh"))
        self.assert_nothing(after(world, ("fall", KEEPER)), ("lapse", "a"))

    def test_jobs_that_are_called_as_events_are(self):
        for name in ("tick", "keeper", "work", "hear", "back", "store", "torn"):
            world = started(book(job(name)))
            free = ("free", 1, name, 1)
            keeper = dict(world["keeper"], open=world["keeper"]["open"] + (free,))
            self.assert_changes(world, ("lapse", name), keeper=keeper, air=world["air"] + (free,))
            self.assertEqual(outcomes_now(calm(world)[0]), ((name, ("done", 1, 1)),))

    def test_work(self):
        world = after(started(), ("hear", 0))
        now = after(world, ("work", 0))
        records = [("step", 1, 1)]
        self.assertEqual(now, dict(world, hands={0: machine_works(world["hands"][0], BOOK)[0], 1: world["hands"][1]},
                                   disks=self.disks(world, hand(0), records), air=(("end", 0, "a", 1, 1, ("done", 2)),)))
        # Nothing is open, and one who is down.
        self.assert_nothing(now, ("work", 0), ("work", 1))
        self.assert_nothing(after(world, ("fall", hand(0))), ("work", 0))

    def test_hear_by_the_store(self):
        world = after(new_world(BOOK, 2), ("tick",))
        store, answers = store_hears(world["store"], ("take", 1))
        now = self.assert_changes(world, ("hear", 0), store=store, disks=self.disks(world, STORE, [(1, ("take", 1))]), air=answers)
        # What does not change it is answered, and not written.
        world = dict(now, air=(("ask", 1), ("take", 1), ("grant", 7, "a", 1, 0)))
        for k, letter in enumerate(world["air"]):
            left = world["air"][:k] + world["air"][k + 1:]
            self.assert_changes(world, ("hear", k), air=left + store_hears(store, letter)[1])

    def test_hear_by_the_keeper(self):
        world = after(new_world(BOOK, 2), ("hear", 0))
        keeper, letters = keeper_hears(world["keeper"], ("taken", 1))
        self.assert_changes(world, ("hear", 0), keeper=keeper, air=letters)
        self.assertEqual(letters, (("ask", 1),))

    def test_hear_by_a_machine(self):
        world = started()
        machine, letters, records = machine_hears(world["hands"][0], BOOK, world["air"][0])
        self.assertEqual((letters, records), ((), (("took", "a", 1, 1, ()),)))
        now = self.assert_changes(world, ("hear", 0), hands={0: machine, 1: world["hands"][1]}, disks=self.disks(world, hand(0), records), air=())
        again = dict(now, air=world["air"])
        self.assert_changes(again, ("hear", 0), air=())
        # A complete work tells its end once more, without a record.
        now = dict(after(now, ("work", 0)), air=(("ask", 1),) + world["air"])
        self.assert_changes(now, ("hear", 1), air=(("ask", 1), ("end", 0, "a", 1, 1, ("done", 2))))

    def test_hear_by_one_who_is_down(self):
        for world, who in ((new_world(BOOK, 2), STORE), (after(new_world(BOOK, 2), ("hear", 0)), KEEPER), (started(), hand(0))):
            down = after(world, ("fall", who))
            self.assert_changes(down, ("hear", 0), air=())
            self.assertEqual(after(down, ("hear", 0))["disks"], world["disks"])

    def test_numbers_beyond_how_many_there_are(self):
        air = (("take", 1), ("ask", 1), ("grant", 1, "a", 1, 0), ("take", 2))
        world = dict(new_world(BOOK, 2), air=air)
        for k in list(range(13)) + [10 ** 59, 10 ** 400 + 3]:
            left = air[:k % 4] + air[k % 4 + 1:]
            self.assert_changes(world, ("lose", k), air=left)
            self.assert_changes(world, ("double", k), air=air + (air[k % 4],))
            self.assertEqual(after(world, ("hear", k)), after(world, ("hear", k % 4)))
            self.assertEqual(after(world, ("hear", k))["air"], left + store_hears(world["store"], air[k % 4])[1])

    def test_an_empty_air(self):
        world = dict(new_world(BOOK, 2), air=())
        for k in (0, 1, 10 ** 400):
            self.assert_nothing(world, ("hear", k), ("lose", k), ("double", k), ("torn", ("hear", k), 3))

    def test_fall(self):
        world = after(started(), ("hear", 0))
        self.assert_changes(world, ("fall", STORE), store=None)
        self.assert_changes(world, ("fall", KEEPER), keeper=None)
        self.assert_changes(world, ("fall", hand(0)), hands={0: None, 1: world["hands"][1]})
        for who in (STORE, KEEPER, hand(0), hand(1)):
            self.assert_nothing(after(world, ("fall", who)), ("fall", who))

    def test_back(self):
        world = after(started(), ("hear", 0))
        for who in (STORE, hand(0), hand(1)):
            self.assertEqual(after(after(world, ("fall", who)), ("back", who)), world)
        down = after(world, ("fall", KEEPER))
        keeper, kept, letters = keeper_back(BOOK, 2, 1)
        now = self.assert_changes(down, ("back", KEEPER), keeper=keeper, disks=self.disks(world, KEEPER, kept), air=world["air"] + letters)
        self.assertEqual(words_on(now["disks"][KEEPER]), (("epoch", 1), ("epoch", 2)))
        now = played(now, [("fall", KEEPER), ("back", KEEPER)])
        self.assertEqual((now["keeper"]["epoch"], now["air"]), (3, world["air"] + (("take", 2), ("take", 3))))

    def test_back_of_one_who_is_up(self):
        world = after(started(), ("hear", 0))
        self.assert_nothing(world, *[("back", who) for who in (STORE, KEEPER, hand(0), hand(1))])

    def test_back_with_a_torn_end(self):
        world = played(started(), [("tick",), ("torn", ("tick",), 5)])
        self.assertTrue(world["disks"][STORE].endswith("9:(t4"[:5]))
        now = after(world, ("back", STORE))
        # The torn end stays till something is written.
        self.assertEqual((now["store"]["time"], now["disks"]), (1, world["disks"]))
        self.assertEqual(after(now, ("tick",))["disks"][STORE], written(world["disks"][STORE], [("tick",)]))


class Torn(Test):
    """[12.2], ("torn", event, keep)."""

    KEEPS = (0, 1, 5, 20, 200, 10 ** 30)

    def test_tick(self):
        world = started()
        for keep in self.KEEPS:
            now = self.assert_changes(world, ("torn", ("tick",), keep), store=None, disks=self.disks(world, STORE, [("tick",)], keep))
            self.assertEqual(store_of(now)["time"], 1 if keep >= 20 else 0)

    def test_hear_by_the_store(self):
        world = dict(new_world(BOOK, 2), air=(("ask", 3), ("take", 1)))
        for keep in self.KEEPS:
            disks = self.disks(world, STORE, [(0, ("take", 1))], keep)
            now = self.assert_changes(world, ("torn", ("hear", 5), keep), store=None, disks=disks, air=(("ask", 3),))
            self.assertEqual(store_of(now)["epoch"], 1 if keep >= 200 else 0)
            # It would write nothing.
            self.assert_changes(world, ("torn", ("hear", 4), keep), store=None, air=(("take", 1),))

    def test_hear_by_the_keeper(self):
        world = after(new_world(BOOK, 2), ("hear", 0))
        for keep in self.KEEPS:
            self.assert_changes(world, ("torn", ("hear", 0), keep), keeper=None, air=())

    def test_hear_and_work_of_a_machine(self):
        world = started()
        for keep in self.KEEPS:
            disks = self.disks(world, hand(0), [("took", "a", 1, 1, ())], keep)
            now = self.assert_changes(world, ("torn", ("hear", 0), keep), hands={0: None, 1: world["hands"][1]}, disks=disks, air=())
            back = after(now, ("back", hand(0)))["hands"][0]
            self.assertEqual(back["works"], {1: ("a", 1, (), 0)} if keep >= 200 else {})
        world = after(world, ("hear", 0))
        for keep in self.KEEPS:
            disks = self.disks(world, hand(0), [("step", 1, 1)], keep)
            now = self.assert_changes(world, ("torn", ("work", 0), keep), hands={0: None, 1: world["hands"][1]}, disks=disks)
            self.assertEqual(after(now, ("back", hand(0)))["hands"][0]["works"], {1: ("a", 1, (), 1 if keep >= 200 else 0)})
            # No work is open: nothing is written, and it falls.
            self.assert_changes(world, ("torn", ("work", 1), keep), hands={0: world["hands"][0], 1: None})

    def test_back(self):
        world = after(started(), ("hear", 0))
        for keep in self.KEEPS:
            for who in (STORE, hand(0), hand(1)):
                self.assert_nothing(after(world, ("fall", who)), ("torn", ("back", who), keep))
            down = after(world, ("fall", KEEPER))
            now = self.assert_changes(down, ("torn", ("back", KEEPER), keep), disks=self.disks(world, KEEPER, [("epoch", 2)], keep))
            # The epoch that stands whole on the disk is not taken once more.
            self.assertEqual(after(now, ("back", KEEPER))["keeper"]["epoch"], 3 if keep >= 200 else 2)

    def test_one_who_is_down_or_up_already(self):
        world = played(started(), [("hear", 0)])
        for keep in (0, 10 ** 30):
            self.assert_nothing(after(world, ("fall", STORE)), ("torn", ("tick",), keep))
            self.assert_nothing(after(world, ("fall", hand(0))), ("torn", ("work", 0), keep))
            self.assert_nothing(world, *[("torn", ("back", who), keep) for who in (STORE, KEEPER, hand(0), hand(1))])
            # A letter taken out stays out.
            for letter, who in ((("take", 7), STORE), (("taken", 1), KEEPER), (("ended", 0, "a", 1), hand(0)), (("refused", 1, "a", 1), hand(1))):
                down = dict(after(world, ("fall", who)), air=(("ask", 9), letter))
                self.assert_changes(down, ("torn", ("hear", 1), keep), air=(("ask", 9),))

    def test_on_a_disk_that_has_a_torn_end_already(self):
        world = played(started(), [("torn", ("tick",), 6), ("back", STORE)])
        end = world["disks"][STORE][-6:]
        self.assertEqual(end, sealed_words([("tick",)])[:6])
        whole = world["disks"][STORE][:-6]
        for keep, left in ((0, ""), (2, end[:2]), (10 ** 9, sealed_words([("tick",)]))):
            self.assertEqual(after(world, ("torn", ("tick",), keep))["disks"][STORE], whole + left)
        # Where nothing is to be written it stays.
        asked = dict(world, air=(("ask", 1),))
        self.assertEqual(after(asked, ("torn", ("hear", 0), 0))["disks"], world["disks"])
        self.assertEqual(after(asked, ("hear", 0))["disks"], world["disks"])
        self.assertEqual(after(world, ("tick",))["disks"][STORE], whole + sealed_words([("tick",)]))


class IsEvent(Test):
    """[12.2], is_event."""

    RIGHT = (("tick",), ("keeper",), ("again",), ("lapse", "a"), ("lapse", "abcdefgh"), ("lapse", "zz"), ("work", 0), ("work", 2), ("hear", 0),
             ("hear", 1), ("hear", 10 ** 59), ("lose", 0), ("lose", 10 ** 59), ("double", 0), ("double", 10 ** 59), ("fall", STORE), ("fall", KEEPER),
             ("fall", ("machine", 0)), ("fall", ("machine", 2)), ("back", STORE), ("back", KEEPER), ("back", ("machine", 2)))
    TORN = (("tick",), ("hear", 0), ("hear", 10 ** 59), ("work", 0), ("work", 2), ("back", STORE), ("back", KEEPER), ("back", ("machine", 2)))
    WRONG = (("tick", 0), ("tick", ()), ("Tick",), ("ticks",), ("",), (None,), ((),), (("tick",),), ("keeper", 1), ("again", ()), ("calm",), ("lapse",),
             ("lapse", ""), ("lapse", "abcdefghi"), ("lapse", "A"), ("lapse", "a b"), ("lapse", 1), ("lapse", None), ("lapse", ("a",)), ("lapse", "a", 1),
             ("work",), ("work", 3), ("work", -1), ("work", True), ("work", False), ("work", "0"), ("work", (0,)), ("work", None), ("work", 0, 0),
             ("hear",), ("hear", -1), ("hear", True), ("hear", False), ("hear", "0"), ("hear", None), ("hear", [0]), ("hear", 0, 0), ("lose", -1),
             ("lose", True), ("lose",), ("double", -1), ("double", False), ("double",), ("fall",), ("fall", "store"), ("fall", ["store"]), ("fall", ()),
             ("fall", ("store", 0)), ("fall", ("keeper", None)), ("fall", ("machine",)), ("fall", ("machine", 3)), ("fall", ("machine", -1)),
             ("fall", ("machine", True)), ("fall", ("machine", "0")), ("fall", ("machine", 0, 0)), ("fall", ["machine", 0]), ("fall", ("Store",)),
             ("fall", ("machines", 0)), ("fall", (["store"],)), ("fall", ("air",)), ("fall", STORE, 0), ("back", None), ("back", ("machine", 3)),
             ("back", ("machine", False)), ("back",), ("torn",), ("torn", ("tick",)), ("torn", ("tick",), 0, 0), ("torn", 0, ("tick",)),
             ("hear", 1.5), ("fall", ({}, 0)), ({}, 0), ([], []))

    def test_each_form_at_its_bounds(self):
        world = new_world(BOOK, 3)
        for event in self.RIGHT:
            self.assertIs(is_event(world, event), True, event)
            after(world, event)
        for event in self.TORN:
            for keep in (0, 1, 10 ** 59):
                self.assertIs(is_event(world, ("torn", event, keep)), True, event)
                after(world, ("torn", event, keep))

    def assert_none(self, world, value):
        self.assertIs(is_event(world, value), False, value)
        self.assert_bad(0, after, world, value)

    def test_near_ones(self):
        world = new_world(BOOK, 3)
        for value in self.WRONG + tuple(list(event) for event in self.RIGHT) + tuple(event[0] for event in self.RIGHT):
            self.assert_none(world, value)
            self.assert_none(world, ("torn", value, 3))

    def test_near_torn_ones(self):
        world = new_world(BOOK, 3)
        for event in (("keeper",), ("again",), ("lapse", "a"), ("lose", 0), ("double", 0), ("fall", STORE), ("torn", ("tick",), 1), ("calm",)):
            self.assert_none(world, ("torn", event, 3))
        for event in self.TORN:
            for keep in (-1, True, False, None, "1", (), (1,), [1], {}):
                self.assert_none(world, ("torn", event, keep))
            self.assert_none(world, ("torn", list(event), 3))
            for word in ("Torn", "tear", "", None, "tick", "hear", ("torn",), True):
                self.assert_none(world, (word, event, 3))
            self.assert_none(world, ["torn", event, 3])

    def test_machines_of_this_world(self):
        for machines in (1, 2, 8):
            world = new_world(BOOK, machines)
            for m in range(10):
                for event in (("work", m), ("fall", ("machine", m)), ("back", ("machine", m)), ("torn", ("work", m), 1), ("torn", ("back", ("machine", m)), 1)):
                    self.assertIs(is_event(world, event), m < machines)

    def test_odd_values(self):
        world = new_world(BOOK, 3)
        for value in ODD_VALUES + (nested(14, ("tick",)), ("torn", nested(13, ("tick",)), 1), ("torn", ("torn", ("torn", (), 1), 1), 1), ("torn", {}, 1)):
            self.assert_none(world, value)


class Played(Test):
    """[12.3]"""

    def test_in_pieces(self):
        chance = random.Random(501)
        for _ in range(20):
            first = new_world(world_book(chance, 4), 2)
            world, script = first, []
            for _ in range(40):
                script.append(random_event(chance, world))
                world = after(world, script[-1])
            self.assertEqual(played(first, script), world)
            self.assertEqual(played(first, tuple(script)), world)
            for k in (0, 1, 17, 40):
                self.assertEqual(played(played(first, script[:k]), script[k:]), world)
        self.assertEqual(played(first, []), first)
        self.assertIsNot(played(first, []), first)

    def test_bad_ones_ahead_of_everything(self):
        world = new_world(BOOK, 2)
        script = [("hear", 0), ("tick",), ("fall", ("machine", 1))]
        for k in range(4):
            for bad in (None, ("work", 2), ["tick"], ("hear", True), ("torn", ("lose", 0), 1)):
                self.assert_bad(k, played, world, script[:k] + [bad] + script[k:])
                self.assert_bad(k, played, world, script[:k] + [bad] + script[k:] + [bad])
        self.assertEqual(world, new_world(BOOK, 2))

    def test_who_is_down(self):
        world = new_world(BOOK, 3)
        everyone = [STORE, KEEPER, hand(0), hand(1), hand(2)]
        for some in ([], [hand(2)], [hand(2), hand(0)], [KEEPER], [hand(1), STORE], everyone[::-1]):
            now = played(world, [("fall", who) for who in some])
            self.assertEqual(who_is_down(now), [who for who in everyone if who in some])
            who_is_down(now).append(1)
            self.assertEqual(len(who_is_down(now)), len(some))

    def test_store_of(self):
        world = started()
        self.assertEqual(store_of(world), world["store"])
        self.assertEqual(store_of(after(world, ("fall", STORE))), world["store"])
        now = after(world, ("torn", ("tick",), 5))
        self.assertEqual(store_of(now), world["store"])
        self.assertEqual(store_of(after(world, ("torn", ("tick",), 500))), ticked(world["store"]))

    def test_outcomes_now_and_left_over(self):
        world = ended()
        for stands in (world, after(world, ("fall", STORE)), after(world, ("torn", ("tick",), 3))):
            self.assertEqual((outcomes_now(stands), left_over(stands)), ((("a", ("done", 1, 2)),), ("b", "c", "d")))
        self.assertEqual((outcomes_now(new_world(BOOK, 1)), left_over(new_world(BOOK, 1))), ((), ("a", "b", "c", "d")))
        late = calm(world)[0]
        self.assertEqual((outcomes_now(late), left_over(late)), (outcomes(BOOK), ()))
        self.assertEqual(outcomes_now(after(late, ("fall", STORE))), outcomes(BOOK))


class ByTheWords(Test):
    """Each event against a world that is made of the words of part 12, and what [12.4] tells FOR ALL of them."""

    def test_long_scripts(self):
        chance = random.Random(502)
        words, finished = {}, 0
        for number in range(60):
            told = world_book(chance, chance.choice((1, 3, 5, 8)), chance.choice((0, 4)))
            machines = chance.choice((1, 2, 3, 8))
            world, naive, due = new_world(told, machines), NaiveWorld(told, machines), dict(outcomes(told))
            self.assertEqual(world, naive.fields())
            pairs = ()
            for _ in range(chance.choice((60, 150, 300))):
                event = random_event(chance, world, MOODS[number % 4])
                self.assertIs(is_event(world, event), True)
                before = world
                world = after(world, event)
                naive.event(event)
                self.assertEqual(world, naive.fields())
                words[event[0]] = words.get(event[0], 0) + (world != before)
                self.assertEqual(who_is_down(world), naive.down())
                pairs = self.assert_once(world, due, pairs)
            finished += left_over(world) == ()
        self.assertGreater(min(words.values()), 20, words)
        self.assertGreater(len(words), 10)
        self.assertGreater(finished, 5)

    def assert_once(self, world, due, pairs):
        if world["store"] is not None:
            self.assertEqual(world["store"], store_again(world["book"], list(words_on(world["disks"][STORE]))))
        now = outcomes_now(world)
        self.assertTrue(set(pairs) <= set(now))
        self.assertEqual(now, tuple((name, due[name]) for name, _ in now))
        self.assertEqual(left_over(world), tuple(sorted(set(due) - {name for name, _ in now})))
        self.assertIsNone(judge_world(world))
        return now


class Calm(Test):
    """[12.5]"""

    def test_from_worlds_of_all_kinds(self):
        chance = random.Random(503)
        for number in range(80):
            told = world_book(chance, chance.choice((1, 3, 5, 8)), chance.choice((0, 4, 30)))
            machines = chance.choice((1, 2, 3, 8))
            world, naive = new_world(told, machines), NaiveWorld(told, machines)
            for _ in range(chance.choice((0, 5, 40, 120))):
                event = random_event(chance, world, MOODS[number % 4])
                world = after(world, event)
                naive.event(event)
            before = repr(world)
            late, many = calm(world)
            events = naive.calm()
            self.assertEqual((late, many), (naive.fields(), len(events)))
            self.assertEqual(played(world, events), late)
            self.assertEqual((outcomes_now(late), left_over(late), judge_world(late)), (outcomes(told), (), None))
            self.assertEqual((who_is_down(late), late["air"], late["keeper"]["holds"], late["keeper"]["open"]), ([], (), (), ()))
            self.assertEqual(calm(late), (late, 0))
            self.assertEqual(repr(world), before)

    def next_of(self, world):
        naive = NaiveWorld(world["book"], world["machines"])
        naive.ones.update({STORE: world["store"], KEEPER: world["keeper"], **{hand(m): one for m, one in world["hands"].items()}})
        naive.air = list(world["air"])
        return naive.next_of_calm()

    def assert_next(self, world, event):
        """The first event of calm is this one."""
        self.assertEqual(self.next_of(world), event)
        late, many = calm(world)
        self.assertEqual(calm(after(world, event)), (late, many - 1))

    def test_each_of_its_choices(self):
        world = started()
        for some, first in (([hand(1), hand(0)], hand(0)), ([KEEPER, hand(0)], KEEPER), ([KEEPER, STORE], STORE), ([hand(1)], hand(1))):
            self.assert_next(played(world, [("fall", who) for who in some]), ("back", first))
        self.assert_next(dict(world, air=world["air"] + (("ask", 1),)), ("hear", 0))
        world = after(world, ("hear", 0))
        self.assert_next(world, ("work", 0))
        busy = machine_hears(world["hands"][1], BOOK, ("work", 1, 1, "c", 77, 1, ()))[0]
        self.assert_next(dict(world, hands={0: fresh_machine(0), 1: busy}), ("work", 1))
        self.assert_next(dict(world, hands={0: world["hands"][0], 1: busy}), ("work", 0))

    def test_when_it_is_the_keepers_turn(self):
        run = played(new_world(BOOK, 2), [("hear", 0)] * 4)
        self.assertEqual((run["keeper"]["phase"], run["air"], run["keeper"]["open"]), ("run", (), ()))
        # It would grant.
        self.assert_next(run, ("keeper",))
        told = book(job("a", start=2))
        wait = played(new_world(told, 2), [("hear", 0)] * 4)
        # It can do nothing, and knows all.
        self.assert_next(wait, ("tick",))
        # Its time, or its moment, is not the store's.
        self.assert_next(after(wait, ("tick",)), ("keeper",))
        told = book(job("a", start=2), job("b", uses=(("pen", 1),)), things=(("pen", 1),))
        wait = played(new_world(told, 1), [("hear", 0)] * 4)
        busy = played(wait, [("keeper",)] + [("hear", 0)] * 5 + [("work", 0)] + [("hear", 0)] * 2)
        self.assertEqual((busy["air"], busy["keeper"]["open"], busy["keeper"]["moment"], busy["store"]["moment"]), ((), (), 2, 3))
        self.assertEqual((grants_now(busy["keeper"]), bars_now(busy["keeper"])), ((), ()))
        self.assert_next(busy, ("keeper",))
        # In the phase "take", or "ask", or while something is open, it says it again.
        lost = after(new_world(told, 2), ("lose", 0))
        self.assert_next(lost, ("again",))
        self.assert_next(played(lost, [("again",), ("hear", 0), ("hear", 0), ("lose", 0)]), ("again",))
        self.assert_next(played(wait, [("keeper",), ("lose", 0), ("lose", 0)]), ("again",))

    def test_what_is_said_again(self):
        # A hold is known, whose work was lost.
        world = played(started(), [("lose", 0), ("again",)])
        asks = [k for k, letter in enumerate(world["air"]) if letter[0] == "ask"]
        world = played(world, [("hear", asks[0])] + [("lose", 0)] * (len(world["air"]) - 1) + [("hear", 0)])
        self.assertEqual((world["keeper"]["open"], [name for name, _ in world["keeper"]["holds"]]), ((("grant", 1, "c", 2, 1),), ["a"]))
        self.assert_next(dict(world, air=()), ("again",))
        # A machine has a complete work, and nobody else knows of anything.
        late = calm(new_world(book(A), 2))[0]
        self.assertEqual(late["hands"][0], {"machine": 0, "works": {}, "gone": (1,)})
        stale = dict(late, hands=late["hands"] | {1: {"machine": 1, "works": {9: ("a", 1, (), 1)}, "gone": ()}})
        self.assert_next(stale, ("again",))
        self.assertEqual(calm(stale)[0]["hands"][1]["gone"], (9,))

    def test_starts_that_are_waited_for(self):
        told = book(job("a", start=7), job("b", start=3))
        late, many = calm(new_world(told, 1))
        self.assertEqual((late["store"]["time"], outcomes_now(late)), (7, outcomes(told)))
        self.assertGreater(many, 20)
        self.assertEqual(late["store"]["ends"]["a"][0][3], 7)
        self.assertEqual(late["store"]["ends"]["b"][0][3], 3)
        # No tick but for a start.
        self.assertEqual(calm(new_world(BOOK, 1))[0]["store"]["time"], 0)

    def test_without_jobs(self):
        late, many = calm(new_world(book(), 1))
        self.assertEqual((many, still_open(late["store"]), late["keeper"]["phase"]), (4, (), "run"))
        self.assertEqual(calm(late)[1], 0)


class JudgeWorld(Test):
    """[12.6]"""

    def test_of_worlds_that_come_about(self):
        for world in (new_world(BOOK, 1), started(), ended(), after(ended(), ("fall", STORE)), calm(ended())[0]):
            self.assertIsNone(judge_world(world))

    def test_disk(self):
        world = ended()
        store = world["store"]
        for other in (new_store(BOOK), ticked(store), dict(store, fence=9), dict(store, epoch=2), dict(store, moment=9), dict(store, ends={}),
                      dict(store, ends={"a": (("done", 1, 2, 0, 3, 9),)}), dict(store, barred={"d": "c"}), dict(store, holds={"c": (1, 0, 1, 3, 0)}),
                      dict(store, freed=((1, "a", 0, 1, 1, 1, 1),)), store_hears(store, ("take", 5))[0]):
            self.assertEqual(judge_world(dict(world, store=other)), ("disk",))
        # A torn end is none of it.
        self.assertIsNone(judge_world(dict(world, disks=world["disks"] | {STORE: world["disks"][STORE] + "12:(t"})))
        self.assertEqual(judge_world(dict(world, disks=world["disks"] | {STORE: world["disks"][STORE][:-1]})), ("disk",))

    def with_letters(self, world, *letters):
        """The world whose store, and its disk, have heard letters that no right run would bring."""
        store, disk = world["store"], world["disks"][STORE]
        for letter in letters:
            disk = written(disk, [(store["time"], letter)])
            store = store_hears(store, letter)[0]
        return dict(world, store=store, disks=world["disks"] | {STORE: disk})

    def test_outcome(self):
        bad = self.with_letters(started(), ("end", 0, "a", 1, 1, ("done", 3)))
        # The value is not the one that is due; the store would tell ("made", "a"), too.
        for world in (bad, after(bad, ("fall", STORE))):
            self.assertEqual(judge_world(world), ("outcome", "a"))
        bad = self.with_letters(started(), ("end", 0, "a", 1, 1, ("failed",)))
        self.assertEqual(judge_world(bad), ("outcome", "a"))
        both = self.with_letters(bad, ("bar", 1, "b", "a"), ("grant", 1, "c", 5, 0), ("end", 0, "c", 5, 1, ("done", 1)))
        self.assertEqual(judge_world(both), ("outcome", "a"))
        self.assertEqual(judge_world(dict(both, store=started()["store"])), ("disk",))
        told = book(job("a", (), ("value", 1)), job("b", (), ("value", 2)))
        bad = self.with_letters(started(told), ("end", 0, "a", 1, 1, ("done", 1)), ("grant", 1, "b", 5, 0), ("end", 0, "b", 5, 1, ("done", 1)))
        self.assertEqual(judge_world(bad), ("outcome", "b"))

    def test_store(self):
        # An attempt that fails though it should not, of a job that has not ended.
        world = played(ended(), [("hear", 0)])
        bad = self.with_letters(world, ("grant", 1, "b", 8, 1), ("end", 1, "b", 8, 1, ("failed",)))
        for stands in (bad, after(bad, ("fall", STORE))):
            self.assertEqual(judge_world(stands), ("store", ("made", "b")))
        self.assertEqual(judge_world(dict(bad, store=world["store"])), ("disk",))


class Bounds(Test):
    """[12.7]"""

    def test_twelve_jobs_eight_machines_three_hundred_events(self):
        chance = random.Random(504)
        for mood in MOODS:
            told = world_book(chance, 12, 40, 20)
            told = book(*[each[:6] + (5,) + each[7:] for each in told[1]], things=told[0])
            world, script = new_world(told, 8), []
            for _ in range(300):
                script.append(random_event(chance, world, mood))
                world = after(world, script[-1])
            self.assertEqual(played(new_world(told, 8), script), world)
            late = calm(world)[0]
            self.assertEqual((outcomes_now(late), judge_world(late)), (outcomes(told), None))
            self.assertLessEqual(late["store"]["time"], max(40, world["store"]["time"] if world["store"] else 40))

    def test_great_values(self):
        many = job("b", ("a",), ("times", ("result", "a"), ("result", "a")))
        told = book(job("a", (), ("value", 10 ** 9)), many, job("c", ("b",), ("times", ("result", "b"), ("result", "b"))),
                    job("d", ("c",), ("times", ("result", "c"), ("result", "c"))), *[
            job(chr(101 + k), (chr(100 + k),), ("times", ("result", chr(100 + k)), ("result", chr(100 + k)))) for k in range(5)])
        world = calm(new_world(told, 2))[0]
        self.assertEqual(dict(outcomes_now(world))["i"], ("done", 1, 10 ** 2304))
        self.assertIsNone(judge_world(world))
        self.assertEqual(played(world, [("fall", STORE), ("back", STORE)]), world)


class Keeping(Test):
    def test_nothing_is_modified(self):
        chance = random.Random(505)
        world = new_world(world_book(chance, 5), 3)
        for _ in range(120):
            event = random_event(chance, world)
            before = repr(world)
            now = after(world, event)
            played(world, [event, event])
            calm(world), judge_world(world), who_is_down(world), store_of(world), outcomes_now(world), left_over(world)
            self.assertEqual(repr(world), before)
            # What comes next is another dict, with other dicts of hands and disks where these differ.
            self.assertIsNot(now, world)
            world = now


if __name__ == "__main__":
    unittest.main()
