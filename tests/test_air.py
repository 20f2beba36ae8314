"""[11.5], the air; and of [11.4] what it says of keepers and machines."""

import random
import unittest

from effectonce.air import doubled, for_whom, taken_out
from effectonce.keeper import keeper_hears, new_keeper
from effectonce.letters import goes_to
from effectonce.machines import fresh_machine, machine_hears, machine_works
from effectonce.world import after, new_world
from tests.letter_samples import LETTERS
from tests.samples import book, job
from tests.world_samples import MOODS, random_event, world_book

AIR = (("take", 1), ("ended", 5, "a", 3), ("ask", 1), ("take", 1), ("taken", 2), ("ended", 5, "a", 3), ("refused", 0, "b", 4))


class Air(unittest.TestCase):
    def test_taken_out(self):
        for many in range(1, len(AIR) + 1):
            air = AIR[:many]
            for k in list(range(3 * many)) + [10 ** 50, 10 ** 400 + 1]:
                letter, left = taken_out(air, k)
                self.assertEqual(letter, air[k % many])
                self.assertEqual(left, tuple(air[at] for at in range(many) if at != k % many))

    def test_doubled(self):
        for many in range(1, len(AIR) + 1):
            air = AIR[:many]
            for k in list(range(3 * many)) + [10 ** 50, 10 ** 400 + 1]:
                self.assertEqual(doubled(air, k), air + (air[k % many],))

    def test_of_none(self):
        for k in (0, 1, 7, 10 ** 400):
            self.assertEqual(taken_out((), k), (None, ()))
            self.assertEqual(doubled((), k), ())
        self.assertEqual(for_whom((), ("store",)), ())

    def test_for_whom(self):
        self.assertEqual(for_whom(AIR, ("store",)), (("take", 1), ("ask", 1), ("take", 1)))
        self.assertEqual(for_whom(AIR, ("keeper",)), (("taken", 2),))
        self.assertEqual(for_whom(AIR, ("machine", 5)), (("ended", 5, "a", 3),) * 2)
        self.assertEqual(for_whom(AIR, ("machine", 0)), (("refused", 0, "b", 4),))
        self.assertEqual(for_whom(AIR, ("machine", 7)), ())
        for whom in [("store",), ("keeper",)] + [("machine", m) for m in range(8)]:
            self.assertEqual(for_whom(LETTERS + LETTERS[::-1], whom), tuple(each for each in LETTERS + LETTERS[::-1] if goes_to(each) == whom))

    def test_three_hundred_letters(self):
        air = (LETTERS * 20)[:300]
        self.assertEqual(doubled(air, 299)[300], air[299])
        self.assertEqual(len(taken_out(air, 301)[1]), 299)
        self.assertEqual(len(for_whom(air, ("store",))), 120)


class OnceAsOften(unittest.TestCase):
    def test_keepers_and_machines_by_chance(self):
        chance = random.Random(221)
        heard = 0
        for number in range(40):
            world = new_world(world_book(chance, chance.randint(1, 6)), chance.randint(1, 4))
            for _ in range(90):
                for letter in world["air"]:
                    whom = goes_to(letter)
                    if whom == ("keeper",) and world["keeper"] is not None:
                        once = keeper_hears(world["keeper"], letter)[0]
                        self.assertEqual(keeper_hears(once, letter)[0], once)
                        heard += 1
                    if whom[0] == "machine" and world["hands"][whom[1]] is not None:
                        once = machine_hears(world["hands"][whom[1]], world["book"], letter)[0]
                        self.assertEqual(machine_hears(once, world["book"], letter)[::2], (once, ()))
                        heard += 1
                world = after(world, random_event(chance, world, MOODS[number % 4]))
        self.assertGreater(heard, 3000)

    def test_a_complete_work_tells_its_end_both_times(self):
        told = book(job("a"))
        letter = ("work", 1, 0, "a", 1, 1, ())
        machine = machine_works(machine_hears(fresh_machine(0), told, letter)[0], told)[0]
        self.assertEqual(machine_hears(machine, told, letter), (machine, (("end", 0, "a", 1, 1, ("done", 1)),), ()))

    def test_letters_that_are_for_others_change_nothing(self):
        told = book(job("a"), job("b"), job("c"))
        for letter in LETTERS:
            if goes_to(letter) != ("keeper",):
                self.assertEqual(keeper_hears(new_keeper(told, 2, 1), letter), (new_keeper(told, 2, 1), ()))
            if goes_to(letter) != ("machine", 4):
                self.assertEqual(machine_hears(fresh_machine(4), told, letter), (fresh_machine(4), (), ()))


if __name__ == "__main__":
    unittest.main()
