"""[14.2], [14.3], [14.5]: a house, its deeds, and what it shows."""

import random
import unittest

from effectonce.checker import why_now
from effectonce.errors import BadScript, NothingDone
from effectonce.house import House
from effectonce.world import after, calm, is_event, judge_world, left_over, new_world, outcomes_now, played, store_of, who_is_down
from tests.samples import ODD_VALUES, book, job
from tests.world_samples import MOODS, random_event, world_book

CALM = ("calm",)
BOOK = book(job("a", (), ("value", 2), uses=(("pen", 1),)), job("b", ("a",), ("plus", ("result", "a"), ("attempt",)), length=2, tries=3),
            job("c", (), ("value", "x"), uses=(("pen", 1),), start=1), things=(("pen", 1),))
HOLDING = [("hear", 0)] * 4 + [("keeper",), ("hear", 0), ("hear", 0), ("hear", 0)]


def behind(book_told, machines, deeds):
    """The world behind deeds, one by one."""
    world = new_world(book_told, machines)
    for deed in deeds:
        world = calm(world)[0] if deed == CALM else after(world, deed)
    return world


class Test(unittest.TestCase):
    def assert_raises(self, error, number, call, *arguments):
        with self.assertRaises(error) as caught:
            call(*arguments)
        if number is not None:
            self.assertEqual(caught.exception.number, number)

    def assert_stands(self, house, deeds):
        self.assertEqual(house.deeds(), list(deeds))
        self.assertEqual(house.world(), behind(BOOK, 2, deeds))


class Deeds(Test):
    """[14.2]"""

    def test_a_new_house(self):
        house = House(BOOK, 2)
        self.assert_stands(house, [])
        self.assertEqual(house.world(), new_world(BOOK, 2))
        self.assert_raises(NothingDone, None, house.undo)
        self.assert_raises(NothingDone, None, house.redo)
        self.assert_stands(house, [])

    def test_do(self):
        house = House(BOOK, 2)
        deeds = [("hear", 0), ("tick",), CALM, ("fall", ("store",)), ("torn", ("back", ("store",)), 3), CALM]
        for k, deed in enumerate(deeds):
            self.assertEqual(house.do(deed), k + 1)
            self.assert_stands(house, deeds[:k + 1])

    def test_undo_and_redo(self):
        house = House(BOOK, 2)
        deeds = [("hear", 0), ("tick",), CALM, ("fall", ("store",))]
        for deed in deeds:
            house.do(deed)
        for k in (3, 2, 1, 0):
            self.assertEqual(house.undo(), k)
            self.assert_stands(house, deeds[:k])
        self.assert_raises(NothingDone, None, house.undo)
        for k in (1, 2, 3, 4):
            self.assertEqual(house.redo(), k)
            self.assert_stands(house, deeds[:k])
        self.assert_raises(NothingDone, None, house.redo)
        self.assert_stands(house, deeds)

    def test_a_deed_behind_an_undo_leaves_nothing_to_be_done_again(self):
        for deed in (("tick",), CALM, ("hear", 0), ("keeper",), ("lapse", "none"), ("back", ("store",)), ("work", 1)):
            house = House(BOOK, 2)
            for each in (("hear", 0), ("tick",), ("tick",)):
                house.do(each)
            house.undo()
            house.undo()
            self.assertEqual(house.do(deed), 2)
            self.assert_raises(NothingDone, None, house.redo)
            self.assert_stands(house, [("hear", 0), deed])
            self.assertEqual(house.undo(), 1)
            self.assertEqual(house.redo(), 2)

    def test_one_that_changes_nothing_stands_done_too(self):
        house = House(BOOK, 2)
        self.assertEqual([house.do(("lapse", "zz")), house.do(("back", ("keeper",))), house.do(("work", 0))], [1, 2, 3])
        self.assertEqual((house.world(), len(house.deeds())), (new_world(BOOK, 2), 3))
        self.assertEqual([house.undo(), house.undo(), house.redo()], [2, 1, 2])

    def test_values_that_are_no_deeds(self):
        house = House(BOOK, 2)
        house.do(("tick",))
        house.do(("tick",))
        house.undo()
        odd = ODD_VALUES + (("calm", 1), ["calm"], "calm", ("Calm",), (("calm",),), ("torn", CALM, 1), ("undo",), ["tick"], ("work", 2), ("hear", True),
                            ("fall", ("machine", 2)), ("torn", ("keeper",), 1), ("lapse", "A"))
        for value in odd:
            self.assert_raises(BadScript, 0, house.do, value)
            self.assert_stands(house, [("tick",)])
        # All stays as it was, also what can be done again.
        self.assertEqual(house.redo(), 2)

    def test_deeds_are_a_list_of_their_own(self):
        house = House(BOOK, 2)
        house.do(("tick",))
        house.deeds().append(("hear", 0))
        house.deeds().clear()
        house.down().append(1)
        self.assert_stands(house, [("tick",)])
        self.assertEqual(house.down(), [])

    def test_twins(self):
        house = House(BOOK, 2)
        for deed in (("hear", 0), ("tick",), ("fall", ("keeper",)), CALM):
            house.do(deed)
        house.undo()
        house.undo()
        twin = house.twin()
        self.assertIsInstance(twin, House)
        self.assertEqual((twin.world(), twin.deeds()), (house.world(), house.deeds()))
        # Each goes its own way, also in what can be done again.
        self.assertEqual([twin.redo(), twin.redo()], [3, 4])
        self.assert_stands(house, [("hear", 0), ("tick",)])
        self.assertEqual(house.redo(), 3)
        self.assertEqual(house.do(("tick",)), 4)
        self.assert_raises(NothingDone, None, house.redo)
        self.assert_stands(twin, [("hear", 0), ("tick",), ("fall", ("keeper",)), CALM])
        self.assertEqual([twin.undo(), twin.undo(), twin.undo(), twin.undo(), twin.redo()], [3, 2, 1, 0, 1])
        self.assert_stands(house, [("hear", 0), ("tick",), ("fall", ("keeper",)), ("tick",)])
        self.assertEqual(twin.twin().deeds(), [("hear", 0)])
        self.assertEqual(House(BOOK, 2).twin().world(), new_world(BOOK, 2))

    def test_by_chance(self):
        chance = random.Random(701)
        for _ in range(25):
            houses = [(House(BOOK, 2), [], [])]
            for _ in range(60):
                house, done, undone = chance.choice(houses)
                pick = chance.randrange(10)
                if pick < 5:
                    deed = CALM if chance.randrange(9) == 0 else random_event(chance, house.world())
                    done.append(deed)
                    undone.clear()
                    self.assertEqual(house.do(deed), len(done))
                elif pick < 7 and done:
                    undone.append(done.pop())
                    self.assertEqual(house.undo(), len(done))
                elif pick < 9 and undone:
                    done.append(undone.pop())
                    self.assertEqual(house.redo(), len(done))
                elif pick == 9 and len(houses) < 4:
                    houses.append((house.twin(), list(done), list(undone)))
            for house, done, undone in houses:
                self.assert_stands(house, done)
                for _ in undone[::-1]:
                    house.redo()
                self.assert_raises(NothingDone, None, house.redo)
                self.assert_stands(house, done + undone[::-1])


class Shows(Test):
    """[14.3]"""

    def test_what_it_shows(self):
        house = House(BOOK, 2)
        self.assertEqual((house.outcomes(), house.left(), house.down(), house.held(), house.stand(), house.right()),
                         ((), ("a", "b", "c"), [], (), (0, 0, 0, 0, 1), True))
        for event in HOLDING:
            house.do(event)
        self.assertEqual((house.held(), house.stand()), ((("a", 1, 0, 1),), (0, 2, 1, 1, 2)))
        self.assertEqual([house.why(name) for name in "abc"], [("held", 1, 0, 1), ("needs", ("a",)), ("time", 1)])
        house.do(("tick",))
        self.assertEqual((house.stand(), house.why("c")), ((1, 2, 1, 1, 2), ("units", (("pen", 0, 1),))))
        house.do(("double", 0))
        self.assertEqual(house.stand(), (1, 2, 1, 1, 3))
        house.do(("fall", ("machine", 1)))
        self.assertEqual(house.down(), [("machine", 1)])
        house.do(CALM)
        self.assertEqual((house.outcomes(), house.left(), house.held(), house.right()),
                         ((("a", ("done", 1, 2)), ("b", ("done", 1, 3)), ("c", ("done", 1, "x"))), (), (), True))

    def test_while_the_store_is_down(self):
        house = House(BOOK, 2)
        for event in HOLDING + [("tick",)]:
            house.do(event)
        shown = (house.outcomes(), house.left(), house.held(), house.stand(), [house.why(name) for name in "abc"], house.right())
        house.do(("fall", ("store",)))
        self.assertEqual((house.outcomes(), house.left(), house.held(), house.stand(), [house.why(name) for name in "abc"], house.right()), shown)
        self.assertEqual(house.down(), [("store",)])
        house.do(("fall", ("keeper",)))
        house.do(("torn", ("back", ("keeper",)), 3))
        self.assertEqual((house.stand(), house.down()), (shown[3], [("store",), ("keeper",)]))

    def test_holds_ascend(self):
        told = book(*[job(name) for name in "abc"])
        house = House(told, 3)
        for event in [("hear", 0)] * 4 + [("keeper",)] + [("hear", 2), ("hear", 0), ("hear", 0)]:
            house.do(event)
        # The grant of c was heard first, by the greatest fence.
        self.assertEqual(house.held(), (("c", 3, 2, 1),))
        house.do(CALM)
        house = House(told, 3)
        for event in [("hear", 0)] * 4 + [("keeper",)] + [("hear", 0)] * 3:
            house.do(event)
        self.assertEqual(house.held(), (("a", 1, 0, 1), ("b", 2, 1, 1), ("c", 3, 2, 1)))

    def test_by_chance(self):
        chance = random.Random(702)
        for number in range(16):
            told = world_book(chance, 5)
            house = House(told, 3)
            for _ in range(70):
                house.do(random_event(chance, house.world(), MOODS[number % 4]))
                world, store = house.world(), store_of(house.world())
                self.assertEqual((house.outcomes(), house.left(), house.down()), (outcomes_now(world), left_over(world), who_is_down(world)))
                self.assertEqual(house.held(), tuple(sorted((name,) + hold[:3] for name, hold in store["holds"].items())))
                self.assertEqual(house.stand(), (store["time"], store["moment"], store["epoch"], store["fence"], len(world["air"])))
                self.assertEqual([house.why(name) for name, *_ in told[1]], [why_now(store, name) for name, *_ in told[1]])
                self.assertIs(house.right(), judge_world(world) is None)
                self.assertIs(house.right(), True)


class Bounds(Test):
    """[14.5]"""

    def test_three_hundred_deeds(self):
        chance = random.Random(703)
        told = world_book(chance, 12, 40)
        house, deeds = House(told, 8), []
        for _ in range(300):
            deeds.append(CALM if chance.randrange(60) == 0 else random_event(chance, house.world()))
            self.assertEqual(house.do(deeds[-1]), len(deeds))
        self.assertEqual(house.world(), behind(told, 8, deeds))
        for k in range(299, -1, -1):
            self.assertEqual(house.undo(), k)
        self.assertEqual(house.world(), new_world(told, 8))
        for k in range(1, 301):
            self.assertEqual(house.redo(), k)
        self.assertEqual(house.world(), behind(told, 8, deeds))

    def test_numbers_of_any_size(self):
        house = House(BOOK, 2)
        self.assertIs(is_event(house.world(), ("hear", 10 ** 400)), True)
        self.assertEqual([house.do(("double", 10 ** 399)), house.do(("torn", ("hear", 10 ** 399), 10 ** 399))], [1, 2])
        self.assertEqual(played(new_world(BOOK, 2), house.deeds()), house.world())


if __name__ == "__main__":
    unittest.main()
