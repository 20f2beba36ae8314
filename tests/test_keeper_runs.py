"""[9.7], [9.8]: keepers over long rows of letters lost, doubled, late; against the words of part 9, and against the store."""

import random
import unittest

from effectonce.keeper import (bars_now, grants_now, idle_machines, keeper_again, keeper_does, keeper_hears, keeper_lapses, known_free,
                               known_outcome, known_results, new_keeper)
from effectonce.letters import is_letter
from effectonce.store import bar_need, bars_grant, outcome_in, store_hears
from tests.keeper_oracles import NaiveKeeper, Run
from tests.world_samples import world_book


def random_run(chance):
    told = world_book(chance, chance.choice((2, 5, 8, 12)), chance.choice((0, 0, 3, 8)))
    return Run(chance, told, chance.choice((1, 2, 3, 8)))


class ByTheWords(unittest.TestCase):
    """Each function against a keeper that is made of the words of part 9 alone."""

    def test_by_chance(self):
        chance = random.Random(301)
        many = {}
        for _ in range(120):
            run = random_run(chance)
            naive = None
            for _ in range(350):
                if run.step is not None:
                    word, before, told, letters = run.step
                    naive = self.shadowed(run, naive, word, told, letters)
                    many[(word, letters != ())] = many.get((word, letters != ()), 0) + 1
                self.assertEqual(run.keeper, naive.fields())
                self.assert_known(run.keeper, naive)
                run.one_step()
        for word in ("comes", "does", "again", "hears", "lapses"):
            self.assertGreater(many[(word, True)], 200, word)
        self.assertGreater(many[("hears", False)], 200)

    def shadowed(self, run, naive, word, told, letters):
        if word == "comes":
            naive = NaiveKeeper(run.book, run.machines, run.keeper["epoch"])
            self.assertEqual(letters, (("take", run.keeper["epoch"]),))
        elif word == "does":
            self.assertEqual(list(letters), naive.does())
        elif word == "again":
            self.assertEqual(list(letters), naive.again())
        elif word == "lapses":
            self.assertEqual(list(letters), naive.lapses(told))
        else:
            self.assertEqual(list(letters), naive.hears(told))
        self.assertTrue(all(is_letter(letter) for letter in letters))
        return naive

    def assert_known(self, keeper, naive):
        self.assertEqual(known_free(keeper), naive.free())
        self.assertEqual(idle_machines(keeper), naive.idle())
        self.assertEqual(list(bars_now(keeper)), naive.bars())
        self.assertEqual(list(grants_now(keeper)), naive.grants())
        for name in naive.jobs:
            self.assertEqual(known_outcome(keeper, name), naive.outcome(name))
            self.assertEqual(known_results(keeper, name), naive.results(name))


class ForAllKeepers(unittest.TestCase):
    """[9.7]"""

    def test_fences_holds_units_and_ends(self):
        chance = random.Random(302)
        granted = ended = 0
        for _ in range(120):
            run = random_run(chance)
            for _ in range(350):
                run.one_step()
                if run.step is not None:
                    granted += self.assert_rising(run)
                ended += self.assert_right(run)
        self.assertGreater(granted, 600)
        self.assertGreater(ended, 1000)

    def assert_rising(self, run):
        """All fences that it asks for are greater than all that it knew or asked before."""
        word, before, told, letters = run.step
        if word != "does":
            return 0
        known = [before["fence"]] + [hold[0] for _, hold in before["holds"]] + [letter[3] for letter in before["open"] if letter[0] == "grant"]
        known += [end[1] for _, lot in before["ends"] for end in lot]
        fences = [letter[3] for letter in letters if letter[0] == "grant"]
        self.assertEqual(fences, sorted(set(fences)))
        self.assertTrue(all(fence > max(known) for fence in fences))
        return len(fences)

    def assert_right(self, run):
        keeper, store = run.keeper, run.store
        grants = [letter for letter in keeper["open"] if letter[0] == "grant"]
        names = [name for name, _ in keeper["holds"]] + [letter[2] for letter in grants]
        machines = [hold[1] for _, hold in keeper["holds"]] + [letter[4] for letter in grants]
        self.assertEqual(len(set(names)), len(names))
        self.assertEqual(len(set(machines)), len(machines))
        self.assertTrue(all(units >= 0 for _, units in known_free(keeper)))
        ended = 0
        for name in (each[0] for each in run.book[1]):
            outcome = known_outcome(keeper, name)
            if outcome is not None:
                ended += 1
                self.assertEqual(outcome_in(store, name)[0], outcome)
        for name, lot in keeper["ends"]:
            self.assertEqual(store["ends"][name][:len(lot)], lot)
        for name, need in keeper["barred"]:
            self.assertEqual(store["barred"][name], need)
        return ended


class AllIsLet(unittest.TestCase):
    """[9.7]: where a keeper knows just what the store has, the store lets all that it asks for; and if it asks for nothing, nothing can be."""

    def test_by_chance(self):
        chance = random.Random(303)
        let = nothing = 0
        for _ in range(120):
            run = random_run(chance)
            for _ in range(chance.randrange(150)):
                run.one_step()
            keeper = self.of_the_present(run)
            letters = keeper_does(keeper)[1]
            self.assertEqual(letters[-1], ("ask", keeper["epoch"]))
            store = run.store
            for letter in letters:
                store, answers = store_hears(store, letter)
                self.assertIn(answers[0][0], ("granted", "barred", "told"))
                let += 1
            if len(letters) == 1:
                nothing += 1
                names = [each[0] for each in run.book[1]]
                self.assertEqual([bar_need(run.store, name) for name in names], [None] * len(names))
                if idle_machines(keeper):
                    self.assertNotIn(None, [bars_grant(run.store, name) for name in names])
        self.assertGreater(let, 200)
        self.assertGreater(nothing, 20)

    def of_the_present(self, run):
        """The keeper that comes next, is taken, and is told what the store has; nothing of it is open."""
        keeper = new_keeper(run.book, run.machines, run.last + 1)
        for letter in (("take", run.last + 1), ("ask", run.last + 1)):
            run.store, answers = store_hears(run.store, letter)
            keeper = keeper_hears(keeper, answers[0])[0]
        self.assertEqual((keeper["phase"], keeper["open"], keeper["moment"]), ("run", (), run.store["moment"]))
        return keeper


class Bounds(unittest.TestCase):
    """[9.8]"""

    def test_machines_from_one_to_eight(self):
        chance = random.Random(304)
        told = world_book(chance, 20, 0)
        for machines in range(1, 9):
            store = Run(chance, told, machines).store
            keeper = new_keeper(told, machines, 1)
            for letter in (("take", 1), ("ask", 1)):
                store, answers = store_hears(store, letter)
                keeper = keeper_hears(keeper, answers[0])[0]
            self.assertEqual(idle_machines(keeper), tuple(range(machines)))
            grants = grants_now(keeper)
            self.assertLessEqual(len(grants), machines)
            self.assertEqual([letter[4] for letter in grants], list(range(len(grants))))

    def test_answers_to_the_ends_of_machines(self):
        told = world_book(random.Random(305), 4)
        keeper = new_keeper(told, 2, 1)
        for word in ("ended", "refused"):
            self.assertEqual(keeper_hears(keeper, (word, 1, told[1][0][0], 1)), (keeper, ()))

    def test_great_epochs_and_forty_jobs(self):
        chance = random.Random(306)
        names = ["j" + chr(97 + k // 26) + chr(97 + k % 26) for k in range(40)]
        told = (("pen", 999999999),), tuple((name, "all", tuple(names[max(0, k - 3):k]), ("value", 10 ** 3999), (("pen", 5),), 20, 5, 0, 0)
                                            for k, name in enumerate(names))
        run = Run(chance, told, 8)
        run.last = 10 ** 50
        run.comes()
        for _ in range(150):
            run.one_step()
        self.assertGreater(run.store["epoch"], 10 ** 50)
        self.assertEqual(keeper_again(run.keeper)[:len(run.keeper["open"])], run.keeper["open"])
        self.assertEqual(keeper_lapses(run.keeper, "none"), (run.keeper, ()))


if __name__ == "__main__":
    unittest.main()
