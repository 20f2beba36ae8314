"""Part 10: machines, their changes, what they hear, do and tell, and that they come back."""

import random
import unittest

from effectonce.letters import is_letter
from effectonce.machines import (end_letter, fresh_machine, machine_again, machine_changed, machine_hears, machine_put_away, machine_stepped,
                                 machine_tells, machine_took, machine_works, open_works, steps_missing)
from tests.samples import book, job

# a takes two steps, b three and uses the result of a, c fails at its first attempt.
BOOK = book(job("a", command=("value", 5), length=2, tries=2), job("b", ("a",), ("plus", ("result", "a"), ("attempt",)), length=3),
            job("c", command=("demand", ("below", ("value", 1), ("attempt",)), ("value", "x")), tries=2))
A7, B4, C9 = ("work", 1, 3, "a", 7, 1, ()), ("work", 1, 3, "b", 4, 1, (("a", 5),)), ("work", 1, 3, "c", 9, 1, ())


def heard(machine, *letters):
    for letter in letters:
        machine = machine_hears(machine, BOOK, letter)[0]
    return machine


def worked(machine, many):
    for _ in range(many):
        machine = machine_works(machine, BOOK)[0]
    return machine


class Changes(unittest.TestCase):
    """[10.1], [10.2]"""

    def test_the_fields_of_a_fresh_one(self):
        for m in range(8):
            self.assertEqual(fresh_machine(m), {"machine": m, "works": {}, "gone": ()})
            self.assertEqual(list(fresh_machine(m)), ["machine", "works", "gone"])

    def test_took(self):
        machine = machine_took(fresh_machine(3), "b", 4, 2, (("a", 5),))
        self.assertEqual(machine, {"machine": 3, "works": {4: ("b", 2, (("a", 5),), 0)}, "gone": ()})
        more = machine_took(machine, "a", 2, 1, ())
        self.assertEqual(more["works"], {4: ("b", 2, (("a", 5),), 0), 2: ("a", 1, (), 0)})

    def test_took_twice_and_with_other_parts(self):
        machine = machine_stepped(machine_took(fresh_machine(3), "b", 4, 2, (("a", 5),)), 4, 2)
        for told in (("b", 4, 2, (("a", 5),)), ("b", 4, 1, ()), ("a", 4, 1, ()), ("b", 4, 2, (("a", 6),))):
            self.assertEqual(machine_took(machine, *told), machine)

    def test_took_of_a_fence_that_is_gone(self):
        machine = machine_put_away(fresh_machine(3), 4)
        self.assertEqual(machine_took(machine, "a", 4, 1, ()), machine)
        self.assertEqual(machine_took(machine, "a", 5, 1, ())["works"], {5: ("a", 1, (), 0)})

    def test_stepped(self):
        machine = machine_took(machine_took(fresh_machine(0), "b", 4, 1, ()), "a", 7, 1, ())
        machine = machine_stepped(machine, 4, 2)
        self.assertEqual(machine["works"], {4: ("b", 1, (), 2), 7: ("a", 1, (), 0)})
        for steps in (0, 1, 2):
            self.assertEqual(machine_stepped(machine, 4, steps), machine)
        self.assertEqual(machine_stepped(machine, 4, 3)["works"][4], ("b", 1, (), 3))
        # Nothing looks at how many the job has.
        self.assertEqual(machine_stepped(machine, 7, 99)["works"][7], ("a", 1, (), 99))

    def test_stepped_without_such_a_work(self):
        for machine in (fresh_machine(1), machine_put_away(fresh_machine(1), 4), machine_took(fresh_machine(1), "a", 5, 1, ())):
            self.assertEqual(machine_stepped(machine, 4, 3), machine)

    def test_put_away(self):
        machine = machine_took(machine_took(fresh_machine(0), "b", 4, 1, ()), "a", 7, 1, ())
        machine = machine_put_away(machine, 7)
        self.assertEqual(machine, {"machine": 0, "works": {4: ("b", 1, (), 0)}, "gone": (7,)})
        self.assertEqual(machine_put_away(machine, 7), machine)
        machine = machine_put_away(machine_put_away(machine, 5), 12)
        self.assertEqual(machine["gone"], (5, 7, 12))
        self.assertEqual(machine_put_away(machine, 4), {"machine": 0, "works": {}, "gone": (4, 5, 7, 12)})

    def test_records_tell_the_changes(self):
        machine = machine_took(fresh_machine(2), "b", 4, 1, ())
        for told, due in ((("took", "a", 9, 2, (("k", None),)), machine_took(machine, "a", 9, 2, (("k", None),))),
                          (("step", 4, 2), machine_stepped(machine, 4, 2)), (("gone", 4), machine_put_away(machine, 4)),
                          (("gone", 6), machine_put_away(machine, 6)), (("step", 6, 1), machine)):
            self.assertEqual(machine_changed(machine, told), due)
            self.assertEqual(machine_changed(due, told), due)

    def test_again(self):
        records = [("took", "b", 4, 1, ()), ("step", 4, 1), ("took", "a", 7, 1, ()), ("step", 4, 2), ("gone", 7), ("took", "a", 7, 1, ())]
        self.assertEqual(machine_again(5, records), {"machine": 5, "works": {4: ("b", 1, (), 2)}, "gone": (7,)})
        self.assertEqual(machine_again(5, []), fresh_machine(5))
        self.assertEqual(machine_again(5, tuple(records)), machine_again(5, records))
        # Each record twice, and all of them again behind it.
        self.assertEqual(machine_again(5, [each for each in records for _ in range(2)]), machine_again(5, records))
        self.assertEqual(machine_again(5, records + records), machine_again(5, records))


class Hears(unittest.TestCase):
    """[10.3]"""

    def assert_nothing(self, machine, letter):
        self.assertEqual(machine_hears(machine, BOOK, letter), (machine, (), ()))

    def test_a_work_is_taken(self):
        machine, letters, records = machine_hears(fresh_machine(3), BOOK, B4)
        self.assertEqual(machine, {"machine": 3, "works": {4: ("b", 1, (("a", 5),), 0)}, "gone": ()})
        self.assertEqual((letters, records), ((), (("took", "b", 4, 1, (("a", 5),)),)))

    def test_a_work_for_another_machine(self):
        for m in (0, 2, 4, 7):
            self.assert_nothing(fresh_machine(3), B4[:2] + (m,) + B4[3:])
            self.assert_nothing(worked(heard(fresh_machine(3), B4), 3), B4[:2] + (m,) + B4[3:])
        self.assertEqual(machine_hears(fresh_machine(0), BOOK, B4[:2] + (0,) + B4[3:])[2], (("took", "b", 4, 1, (("a", 5),)),))

    def test_heard_again_while_it_is_open(self):
        machine = worked(heard(fresh_machine(3), B4), 2)
        for letter in (B4, ("work", 9, 3, "b", 4, 1, (("a", 5),)), ("work", 1, 3, "b", 4, 2, ()), ("work", 1, 3, "a", 4, 1, ())):
            self.assert_nothing(machine, letter)

    def test_heard_again_when_it_is_complete(self):
        machine = worked(heard(fresh_machine(3), B4), 3)
        end = ("end", 3, "b", 4, 1, ("done", 6))
        # What was taken first stands, whatever the letter tells.
        for letter in (B4, ("work", 9, 3, "b", 4, 1, (("a", 5),)), ("work", 1, 3, "b", 4, 2, (("a", 70),)), ("work", 1, 3, "a", 4, 1, ())):
            self.assertEqual(machine_hears(machine, BOOK, letter), (machine, (end,), ()))

    def test_heard_when_it_is_gone(self):
        machine = heard(worked(heard(fresh_machine(3), B4), 3), ("ended", 3, "b", 4))
        for letter in (B4, ("work", 2, 3, "b", 4, 1, (("a", 5),)), ("work", 1, 3, "a", 4, 1, ())):
            self.assert_nothing(machine, letter)

    def test_ended_and_refused(self):
        for word in ("ended", "refused"):
            for steps in (0, 2, 3):
                machine = worked(heard(fresh_machine(3), B4), steps)
                # Its own number and the fence count, not the job.
                for name in ("b", "a", "zzz"):
                    now = machine_hears(machine, BOOK, (word, 3, name, 4))
                    self.assertEqual(now, ({"machine": 3, "works": {}, "gone": (4,)}, (), (("gone", 4),)))
                    self.assert_nothing(now[0], (word, 3, name, 4))
                self.assert_nothing(machine, (word, 3, "b", 5))
                self.assert_nothing(machine, (word, 2, "b", 4))
            self.assert_nothing(fresh_machine(3), (word, 3, "b", 4))

    def test_letters_for_others(self):
        for steps in (0, 3):
            machine = worked(heard(fresh_machine(3), B4), steps)
            for letter in (("end", 3, "b", 4, 1, ("done", 6)), ("grant", 1, "b", 4, 3), ("granted", 1, "b", 4, 3, 1, ()), ("freed", 3, "b", 4), ("ask", 4),
                           ("free", 3, "b", 4), ("bar", 3, "b", "a"), ("told", 1, 3, 4, 4, (), (), ()), ("no", 3, ("ask", 3)), ("barred", 3, "b")):
                self.assert_nothing(machine, letter)

    def test_each_puts_away_its_own(self):
        machine = heard(fresh_machine(3), B4, A7, C9, ("refused", 3, "a", 7))
        self.assertEqual((sorted(machine["works"]), machine["gone"]), ([4, 9], (7,)))
        machine = heard(machine, ("ended", 3, "b", 4))
        self.assertEqual((sorted(machine["works"]), machine["gone"]), ([9], (4, 7)))

    def test_twice_right_behind_one_another(self):
        letters = (A7, B4, C9, ("ended", 3, "a", 7), ("refused", 3, "c", 9), ("ended", 3, "b", 2), B4[:2] + (5,) + B4[3:])
        for steps in range(8):
            machine = worked(heard(fresh_machine(3), A7, B4), steps)
            for letter in letters:
                once = heard(machine, letter)
                self.assertEqual(heard(once, letter), once)
                self.assertEqual(machine_hears(once, BOOK, letter)[2], ())


class Works(unittest.TestCase):
    """[10.4], [10.6]"""

    def test_the_least_fence_first(self):
        machine = heard(fresh_machine(3), C9, A7, B4)
        told, kept = [], []
        for missing in range(6, 0, -1):
            self.assertEqual(steps_missing(machine, BOOK), missing)
            machine, letters, records = machine_works(machine, BOOK)
            told.append(letters)
            kept.append(records)
        self.assertEqual(kept, [(("step", 4, 1),), (("step", 4, 2),), (("step", 4, 3),), (("step", 7, 1),), (("step", 7, 2),), (("step", 9, 1),)])
        self.assertEqual(told, [(), (), (("end", 3, "b", 4, 1, ("done", 6)),), (), (("end", 3, "a", 7, 1, ("done", 5)),),
                                (("end", 3, "c", 9, 1, ("failed",)),)])
        self.assertEqual((steps_missing(machine, BOOK), open_works(machine, BOOK)), (0, ()))
        self.assertEqual(machine_works(machine, BOOK), (machine, (), ()))
        self.assertEqual(machine_works(fresh_machine(3), BOOK), (fresh_machine(3), (), ()))

    def test_a_lesser_fence_that_comes_later_goes_ahead(self):
        machine = heard(worked(heard(fresh_machine(3), A7), 1), B4)
        self.assertEqual(machine_works(machine, BOOK)[2], (("step", 4, 1),))
        self.assertEqual(open_works(machine, BOOK), (4, 7))

    def test_fences_by_number_and_not_by_text(self):
        machine = heard(fresh_machine(3), *[("work", 1, 3, "a", fence, 1, ()) for fence in (100, 20, 3)])
        self.assertEqual(open_works(machine, BOOK), (3, 20, 100))
        machine = worked(machine, 6)
        self.assertEqual([letter[3] for letter in machine_tells(machine, BOOK)[1]], [3, 20, 100])

    def test_one_step_more_than_the_job_has(self):
        machine = machine_again(3, [("took", "a", 7, 1, ()), ("step", 7, 9), ("took", "b", 8, 1, ())])
        self.assertEqual((open_works(machine, BOOK), steps_missing(machine, BOOK)), ((8,), 3))
        self.assertEqual(machine_tells(machine, BOOK)[1], (("end", 3, "a", 7, 1, ("done", 5)),))

    def test_tells(self):
        machine = heard(fresh_machine(3), C9, A7, B4)
        self.assertEqual(machine_tells(machine, BOOK), (machine, (), ()))
        machine = worked(machine, 5)
        ends = (("end", 3, "b", 4, 1, ("done", 6)), ("end", 3, "a", 7, 1, ("done", 5)))
        self.assertEqual(machine_tells(machine, BOOK), (machine, ends, ()))
        machine = worked(machine, 1)
        self.assertEqual(machine_tells(machine, BOOK), (machine, ends + (("end", 3, "c", 9, 1, ("failed",)),), ()))
        machine = heard(machine, ("ended", 3, "b", 4))
        self.assertEqual([letter[3] for letter in machine_tells(machine, BOOK)[1]], [7, 9])

    def test_end_letters(self):
        for attempt, results, fence, outcome in ((1, (("a", 5),), "b", ("done", 6)), (3, (("a", -4),), "b", ("done", -1)),
                                                 (2, (("a", None),), "b", ("done", None)), (1, (), "c", ("failed",)), (2, (), "c", ("done", "x"))):
            for m in (0, 7):
                machine = machine_took(fresh_machine(m), fence, 5, attempt, results)
                letter = end_letter(machine, BOOK, 5)
                self.assertEqual(letter, ("end", m, fence, 5, attempt, outcome))
                self.assertTrue(is_letter(letter))


class ForAllRows(unittest.TestCase):
    """[10.5], over rows of letters, steps, falls and returns by chance."""

    def random_letter(self, chance):
        fence, name = chance.randint(1, 9), chance.choice("abc")
        if chance.randrange(3) == 0:
            return (chance.choice(("ended", "refused")), chance.choice((3, 3, 3, 4)), name, fence)
        results = (("a", chance.choice((1, None, "y"))),) if name == "b" else ()
        return ("work", chance.randint(1, 3), chance.choice((3, 3, 3, 3, 4)), name, fence, chance.randint(1, 2), results)

    def step(self, chance, machine):
        if chance.randrange(2):
            return machine_works(machine, BOOK)
        if chance.randrange(5) == 0:
            return machine_tells(machine, BOOK)
        return machine_hears(machine, BOOK, self.random_letter(chance))

    def test_it_comes_back_as_it_was(self):
        chance = random.Random(201)
        for _ in range(60):
            machine, kept, states, ends = fresh_machine(3), [], [fresh_machine(3)], {}
            for _ in range(80):
                before = machine
                machine, letters, records = self.step(chance, before)
                if chance.randrange(9) == 0:
                    # A fall within the event: some of its records stay, and its letters do not go out.
                    records, letters = records[:chance.randrange(2)], ()
                    machine = machine_again(3, kept + list(records))
                    self.assertIn(machine, (before, self_behind(before, records)))
                kept += records
                self.assertEqual(machine_again(3, kept), machine)
                self.assertEqual(len(records) > 0, machine != before)
                states += [machine] * len(records)
                for letter in letters:
                    self.assertEqual(ends.setdefault(letter[3], letter), letter)
                self.assertTrue(set(before["gone"]) <= set(machine["gone"]))
                self.assertFalse(set(machine["gone"]) & set(machine["works"]))
            for k in range(len(kept) + 1):
                self.assertEqual(machine_again(3, kept[:k]), states[k])

    def test_missing_steps_fall_by_one(self):
        chance = random.Random(202)
        for _ in range(60):
            machine = fresh_machine(3)
            for _ in range(8):
                machine = self.step(chance, machine)[0]
            for missing in range(steps_missing(machine, BOOK), 0, -1):
                self.assertEqual(steps_missing(machine, BOOK), missing)
                self.assertTrue(open_works(machine, BOOK))
                machine = machine_works(machine, BOOK)[0]
            self.assertEqual((steps_missing(machine, BOOK), open_works(machine, BOOK)), (0, ()))
            self.assertEqual([letter[3] for letter in machine_tells(machine, BOOK)[1]], sorted(machine["works"]))
            for name, fence in [(work[0], fence) for fence, work in machine["works"].items()]:
                machine = machine_hears(machine, BOOK, ("ended", 3, name, fence))[0]
            self.assertEqual(machine["works"], {})


def self_behind(machine, records):
    for each in records:
        machine = machine_changed(machine, each)
    return machine


class Bounds(unittest.TestCase):
    """[10.7]"""

    def test_two_hundred_works(self):
        machine = fresh_machine(7)
        for fence in range(200, 0, -1):
            machine = machine_hears(machine, BOOK, ("work", 1, 7, "abc"[fence % 3], fence, 1, (("a", 10 ** 4000),) if fence % 3 == 1 else ()))[0]
        self.assertEqual(open_works(machine, BOOK), tuple(range(1, 201)))
        self.assertEqual(steps_missing(machine, BOOK), 67 * 3 + 66 * 2 + 67)
        told = ()
        while open_works(machine, BOOK):
            machine, letters, _ = machine_works(machine, BOOK)
            told += letters
        self.assertEqual([letter[3] for letter in told], list(range(1, 201)))
        self.assertEqual(told[0][5], ("done", 10 ** 4000 + 1))
        self.assertEqual(machine_tells(machine, BOOK)[1], told)

    def test_two_thousand_records(self):
        records = []
        for fence in range(1, 501):
            records += [("took", "a", fence, 1, ()), ("step", fence, 1), ("step", fence, 2), ("gone", fence)]
        self.assertEqual(machine_again(0, records), {"machine": 0, "works": {}, "gone": tuple(range(1, 501))})
        self.assertEqual(machine_again(0, records[:1999])["works"], {500: ("a", 1, (), 2)})


class Keeping(unittest.TestCase):
    def test_nothing_is_modified(self):
        machine = worked(heard(fresh_machine(3), B4, A7, C9, ("ended", 3, "c", 9)), 4)
        before = repr(machine)
        records = [("took", "c", 11, 1, ()), ("step", 7, 2), ("gone", 4), ("gone", 5)]
        for each in records:
            machine_changed(machine, each)
        machine_again(3, records)
        self.assertEqual(len(records), 4)
        for letter in (A7, B4, C9, ("work", 1, 3, "a", 20, 1, ()), ("ended", 3, "a", 7), ("refused", 3, "b", 4)):
            machine_hears(machine, BOOK, letter)
        machine_works(machine, BOOK), machine_tells(machine, BOOK), open_works(machine, BOOK), steps_missing(machine, BOOK), end_letter(machine, BOOK, 4)
        self.assertEqual(repr(machine), before)


if __name__ == "__main__":
    unittest.main()
