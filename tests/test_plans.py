"""[5.1] to [5.3], [5.6], [5.7]: plans, dealt, by lists, in turn, the least ones, and one that gets longer."""

import random
import unittest

from effectonce.plans import (dealt, job_order, judge_plan, least_plan, list_plan, longer_example, plan_length,
                              turn_plan)
from effectonce.webs import judge_book
from tests.plan_oracles import (all_orders, length_of, naive_dealt, naive_fault, naive_job_order, naive_least_plan,
                                naive_list_begins, naive_turn_begins, random_order, random_right_plan, random_work)
from tests.samples import ODD_VALUES, book, job

PEN = (("pen", 1),)
# a is needed by b; b and c use the pen; c may begin at 1.
WORK = book(job("a", length=3), job("b", ("a",), uses=PEN, length=2), job("c", uses=PEN, length=4, start=1, urgency=5),
            things=PEN)
NONE = book()


def begins_of(plan):
    return {name: begin for name, _, begin in plan}


def pairs(begins):
    return tuple(sorted(begins.items()))


class Lengths(unittest.TestCase):
    def test_without_jobs(self):
        self.assertEqual(plan_length(NONE, ()), 0)
        self.assertIsNone(judge_plan(NONE, 1, ()))
        self.assertEqual(judge_plan(NONE, 1, None), ("form",))

    def test_the_greatest_end(self):
        self.assertEqual(plan_length(WORK, (("a", 0, 0), ("b", 0, 5), ("c", 1, 1))), 7)
        self.assertEqual(plan_length(WORK, (("a", 0, 0), ("b", 0, 3), ("c", 1, 5))), 9)
        self.assertEqual(plan_length(WORK, (("a", 0, 10000), ("b", 0, 3), ("c", 1, 5))), 10003)


class Judging(unittest.TestCase):
    def test_right_plans(self):
        for plan in ((("a", 0, 0), ("b", 0, 5), ("c", 1, 1)), (("a", 1, 0), ("b", 0, 5), ("c", 0, 1)),
                     (("a", 1, 0), ("b", 1, 3), ("c", 0, 5)), (("a", 0, 9000), ("b", 0, 10000), ("c", 0, 1))):
            self.assertIsNone(judge_plan(WORK, 2, plan), plan)

    def test_one_begins_just_when_another_ends(self):
        value = book(job("a", length=3, uses=PEN), job("b", ("a",), length=2, uses=PEN), job("c", length=1, uses=PEN), things=PEN)
        self.assertIsNone(judge_plan(value, 1, (("a", 0, 0), ("b", 0, 3), ("c", 0, 5))))
        self.assertEqual(judge_plan(value, 1, (("a", 0, 0), ("b", 0, 2), ("c", 0, 5))), ("needs", "b", "a"))
        self.assertEqual(judge_plan(value, 1, (("a", 0, 0), ("b", 0, 3), ("c", 0, 4))), ("machine", "b", "c"))
        self.assertEqual(judge_plan(value, 2, (("a", 0, 0), ("b", 0, 3), ("c", 1, 4))), ("units", 4, "pen"))
        self.assertEqual(judge_plan(value, 2, (("a", 0, 1), ("b", 0, 4), ("c", 1, 3))), ("units", 3, "pen"))
        self.assertIsNone(judge_plan(value, 1, (("a", 0, 1), ("b", 0, 4), ("c", 0, 0))))

    def test_start(self):
        self.assertEqual(judge_plan(WORK, 2, (("a", 0, 0), ("b", 1, 3), ("c", 0, 0))), ("start", "c"))
        value = book(job("a", start=3), job("b", start=1), job("c", ("a",), start=2))
        for begins, due in (((2, 0, 0), "a"), ((3, 0, 1), "b"), ((3, 1, 1), "c")):
            plan = tuple((name, 0, begin) for name, begin in zip("abc", begins))
            self.assertEqual(judge_plan(value, 1, plan), ("start", due))

    def test_needs(self):
        value = book(job("a", length=4), job("b", length=2), job("c", ("a", "b")), job("d", ("a", "c")))
        for begins, due in (((0, 0, 1, 9), ("needs", "c", "a")), ((0, 8, 4, 0), ("needs", "c", "b")),
                            ((0, 0, 5, 5), ("needs", "d", "c")), ((4, 0, 9, 7), ("needs", "d", "a"))):
            plan = tuple((name, 0, begin) for name, begin in zip("abcd", begins))
            self.assertEqual(judge_plan(value, 1, plan), due)

    def test_machine(self):
        value = book(*[job(name, length=3) for name in "abcd"])
        for machines, begins, due in (((0, 0, 0, 0), (9, 6, 0, 2), ("c", "d")), ((0, 1, 0, 1), (0, 2, 3, 0), ("b", "d")),
                                      ((1, 1, 1, 1), (2, 7, 0, 4), ("a", "c")), ((1, 1, 1, 1), (2, 0, 0, 4), ("a", "b")),
                                      ((1, 0, 1, 1), (0, 0, 3, 2), ("a", "d")), ((1, 0, 1, 2), (5, 5, 5, 5), ("a", "c"))):
            self.assertEqual(judge_plan(value, 3, tuple(zip("abcd", machines, begins))), ("machine",) + due)
        for machines, begins in (((0, 0, 0, 0), (9, 6, 0, 3)), ((0, 1, 2, 2), (0, 0, 3, 0)), ((2, 2, 2, 2), (3, 0, 9, 6))):
            self.assertIsNone(judge_plan(value, 3, tuple(zip("abcd", machines, begins))))

    def test_units(self):
        things = (("pen", 2), ("saw", 3))
        value = book(job("a", uses=(("pen", 2), ("saw", 1)), length=4), job("b", uses=(("saw", 2),), length=4),
                     job("c", uses=(("pen", 1), ("saw", 1)), length=4), things=things)
        for begins, due in (((0, 0, 4), None), ((0, 0, 3), ("units", 3, "pen")), ((3, 0, 0), ("units", 3, "pen")),
                            ((2, 0, 3), ("units", 3, "pen")), ((6, 0, 3), ("units", 6, "pen")), ((0, 1, 4), None)):
            self.assertEqual(judge_plan(value, 3, tuple(zip("abc", (0, 1, 2), begins))), due, begins)
        # One number more of a thing than there is, and just as much of it.
        for more, due in ((0, None), (1, ("units", 1, "saw"))):
            value = book(job("a", uses=(("saw", 2),), length=2), job("b", uses=(("saw", 1 + more),), start=1), things=things)
            self.assertEqual(judge_plan(value, 2, (("a", 0, 0), ("b", 1, 1))), due)
        self.assertEqual(judge_plan(value, 2, (("a", 0, 5), ("b", 1, 6))), ("units", 6, "saw"))

    def test_the_first_thing_at_the_least_time(self):
        things = (("ax", 1), ("box", 1))
        value = book(job("a", uses=(("box", 1),), length=9), job("b", uses=(("box", 1),), start=2),
                     job("c", uses=(("ax", 1), ("box", 1)), length=2), job("d", uses=(("ax", 1),)), things=things)
        self.assertEqual(judge_plan(value, 4, (("a", 0, 0), ("b", 1, 2), ("c", 2, 5), ("d", 3, 5))), ("units", 2, "box"))
        self.assertEqual(judge_plan(value, 4, (("a", 0, 0), ("b", 1, 9), ("c", 2, 5), ("d", 3, 5))), ("units", 5, "ax"))

    def test_the_first_of_several_faults(self):
        value = book(job("a", uses=PEN, length=2, start=1), job("b", ("a",), uses=PEN, length=2), things=PEN)
        for plan, due in (((("a", 0, 0), ("b", 0, 0)), ("start", "a")), ((("a", 0, 1), ("b", 0, 1)), ("needs", "b", "a")),
                          ((("a", 0, -1), ("b", 0, 0)), ("form",)), ((("a", 0, 1), ("b", 0, 3)), None)):
            self.assertEqual(judge_plan(value, 1, plan), due)
        value = book(job("a", uses=PEN), job("b", uses=PEN), things=PEN)
        self.assertEqual(judge_plan(value, 2, (("a", 0, 0), ("b", 0, 0))), ("machine", "a", "b"))
        self.assertEqual(judge_plan(value, 2, (("a", 0, 0), ("b", 1, 0))), ("units", 0, "pen"))

    def test_by_chance(self):
        chance = random.Random(61)
        met = set()
        for _ in range(1500):
            value = random_work(chance, chance.randint(1, 6))
            m = chance.randint(1, 4)
            plan = list(random_right_plan(chance, value, m))
            self.assertIsNone(judge_plan(value, m, tuple(plan)))
            for _ in range(2):
                k = chance.randrange(len(plan))
                plan[k] = (plan[k][0], chance.randrange(m), max(0, plan[k][2] + chance.choice((-2, -1, 0, 1, 2))))
                due = naive_fault(value, m, plan)
                self.assertEqual(judge_plan(value, m, tuple(plan)), due)
                met.add(due and due[0])
        self.assertEqual(met, {None, "start", "needs", "machine", "units"})


class Form(unittest.TestCase):
    RIGHT = (("a", 0, 0), ("b", 0, 5), ("c", 1, 1))

    def test_each_place(self):
        for k in range(3):
            name, machine, begin = self.RIGHT[k]
            for wrong in ((name, True, begin), (name, False, begin), (name, machine, True), (name, machine, False),
                          (name, 2, begin), (name, -1, begin), (name, machine, -1), [name, machine, begin], (name, machine),
                          (name, machine, begin, 0), (machine, name, begin), ("d", machine, begin), (name.upper(), machine, begin),
                          (None, machine, begin), (name, None, begin), (name, machine, None), (name, str(machine), begin),
                          (name, machine, str(begin)), (name, 10 ** 59, begin), name, None, (), {}, ((name, machine), begin),
                          ([name], machine, begin), ((name,), machine, begin), (name, (machine,), begin), (name, machine, [begin]),
                          {name: 0, machine: 1, begin: 2}):
                value = self.RIGHT[:k] + (wrong,) + self.RIGHT[k + 1:]
                self.assertEqual(judge_plan(WORK, 2, value), ("form",), value)

    def test_machines(self):
        for m in range(1, 9):
            value = book(job("a"))
            self.assertIsNone(judge_plan(value, m, (("a", m - 1, 0),)))
            self.assertEqual(judge_plan(value, m, (("a", m, 0),)), ("form",))

    def test_names_left_out_and_told_twice(self):
        a, b, c = self.RIGHT
        for value in ((), (a,), (a, b), (b, c), (a, c), (a, b, c, c), (a, a, b, c), (a, b, b), (b, a, c), (c, b, a), (a, c, b),
                      [a, b, c], a, (self.RIGHT,), (a, b, c, ())):
            self.assertEqual(judge_plan(WORK, 2, value), ("form",), value)

    def test_odd_values(self):
        for value in ODD_VALUES:
            self.assertEqual(judge_plan(WORK, 2, value), ("form",))
            self.assertEqual(judge_plan(NONE, 2, value), None if value == () else ("form",))
            self.assertEqual(judge_plan(book(job("a")), 2, (value,)), ("form",))
            for k in range(3):
                triple = ("a", 1, 1)[:k] + (value,) + ("a", 1, 1)[k + 1:]
                good = (None, (0, 1), (0, 1, 5, 10 ** 59))[k]
                ok = value == "a" if k == 0 else value in good and not isinstance(value, bool)
                self.assertEqual(judge_plan(book(job("a")), 2, (triple,)), None if ok else ("form",), triple)

    def test_far_begins(self):
        far = 10 ** 59
        value = book(job("a", length=2, uses=PEN), job("b", uses=PEN), things=PEN)
        self.assertIsNone(judge_plan(value, 2, (("a", 0, far), ("b", 1, far + 2))))
        self.assertEqual(judge_plan(value, 2, (("a", 0, far), ("b", 1, far + 1))), ("units", far + 1, "pen"))


class Dealt(unittest.TestCase):
    def test_the_least_free_machine(self):
        value = book(*[job(name, length=length) for name, length in zip("abcdef", (5, 2, 4, 1, 3, 1))])
        self.assertEqual(dealt(value, pairs({"a": 0, "b": 0, "c": 2, "d": 0, "e": 1, "f": 6})),
                         (("a", 0, 0), ("b", 1, 0), ("c", 1, 2), ("d", 2, 0), ("e", 2, 1), ("f", 0, 6)))

    def test_by_begin_then_by_name(self):
        value = book(job("a"), job("b", length=3), job("c", length=3))
        self.assertEqual(dealt(value, pairs({"a": 2, "b": 2, "c": 2})), (("a", 0, 2), ("b", 1, 2), ("c", 2, 2)))
        self.assertEqual(dealt(value, pairs({"a": 2, "b": 1, "c": 0})), (("a", 2, 2), ("b", 1, 1), ("c", 0, 0)))
        self.assertEqual(dealt(value, pairs({"a": 3, "b": 0, "c": 0})), (("a", 0, 3), ("b", 0, 0), ("c", 1, 0)))
        self.assertEqual(dealt(NONE, ()), ())

    def test_by_chance(self):
        chance = random.Random(62)
        for _ in range(300):
            value = random_work(chance, chance.randint(1, 12))
            begins = {each[0]: chance.randint(0, 25) for each in value[1]}
            self.assertEqual(dealt(value, pairs(begins)), naive_dealt(value, begins))


class Orders(unittest.TestCase):
    def test_urgency_then_rank_then_name(self):
        value = book(job("a", ("f",)), job("b"), job("c", ("a",), urgency=2), job("d", urgency=-1), job("e", urgency=2),
                     job("f"), job("g", ("a", "b"), urgency=100))
        self.assertEqual(job_order(value), ("g", "e", "c", "b", "f", "a", "d"))
        self.assertEqual(job_order(NONE), ())

    def test_by_chance(self):
        chance = random.Random(63)
        for _ in range(200):
            value = random_work(chance, chance.randint(1, 20), thick=20)
            self.assertEqual(job_order(value), naive_job_order(value))


class ListPlans(unittest.TestCase):
    def test_starts(self):
        value = book(job("a", length=2, start=1000), job("b", start=7), job("c", ("a",)), job("d", length=3))
        self.assertEqual(list_plan(value, 1), (("a", 0, 1000), ("b", 0, 7), ("c", 0, 1002), ("d", 0, 0)))

    def test_one_machine_goes_along_the_order(self):
        value = book(job("a", length=2), job("b", length=3, urgency=1), job("c", ("b",), urgency=2), job("d", urgency=-9))
        self.assertEqual(list_plan(value, 1), (("a", 0, 4), ("b", 0, 0), ("c", 0, 3), ("d", 0, 6)))

    def test_more_machines_than_jobs(self):
        value = book(job("a", length=2), job("b", ("a",)), job("c", length=5))
        self.assertEqual(list_plan(value, 8), (("a", 0, 0), ("b", 0, 2), ("c", 1, 0)))

    def test_no_job_waits_for_a_more_urgent_one(self):
        # c is looked at first, but may not begin yet: a takes the pen, and c waits for it.
        value = book(job("a", uses=PEN, length=3), job("c", uses=PEN, start=1, urgency=9), things=PEN)
        self.assertEqual(list_plan(value, 2), (("a", 0, 0), ("c", 0, 3)))

    def test_what_begins_at_one_time_counts(self):
        things = (("pen", 3),)
        value = book(job("a", uses=(("pen", 2),), length=2), job("b", uses=(("pen", 2),)), job("c", uses=PEN, length=4),
                     job("d"), things=things)
        self.assertEqual(list_plan(value, 3), (("a", 0, 0), ("b", 0, 2), ("c", 1, 0), ("d", 2, 0)))
        self.assertEqual(list_plan(value, 2), (("a", 0, 0), ("b", 0, 2), ("c", 1, 0), ("d", 0, 3)))

    def test_without_jobs(self):
        self.assertEqual(list_plan(NONE, 3), ())

    def test_by_chance(self):
        chance = random.Random(64)
        for _ in range(400):
            value = random_work(chance, chance.randint(1, 12), things=chance.randrange(3) > 0)
            m = chance.randint(1, 8)
            plan = list_plan(value, m)
            self.assertEqual(plan, naive_dealt(value, naive_list_begins(value, m)))
            self.assertIsNone(judge_plan(value, m, plan))


class TurnPlans(unittest.TestCase):
    def test_a_later_job_fills_a_hole(self):
        value = book(job("a", length=2), job("b", length=3, start=5), job("c", length=3), job("d"))
        self.assertEqual(turn_plan(value, 1, ("a", "b", "c", "d")), (("a", 0, 0), ("b", 0, 5), ("c", 0, 2), ("d", 0, 8)))
        self.assertEqual(turn_plan(value, 1, ("a", "b", "d", "c")), (("a", 0, 0), ("b", 0, 5), ("c", 0, 8), ("d", 0, 2)))
        self.assertEqual(turn_plan(value, 1, ("b", "c", "a", "d")), (("a", 0, 3), ("b", 0, 5), ("c", 0, 0), ("d", 0, 8)))

    def test_a_hole_that_is_too_short(self):
        value = book(job("a", length=3, start=2, uses=PEN), job("b", length=2, uses=PEN), job("c", length=2, uses=PEN),
                     job("d", length=3, uses=PEN), things=PEN)
        self.assertEqual(turn_plan(value, 4, ("a", "d", "b", "c")), (("a", 0, 2), ("b", 0, 0), ("c", 0, 8), ("d", 0, 5)))

    def test_by_chance(self):
        chance = random.Random(65)
        for _ in range(400):
            value = random_work(chance, chance.randint(1, 10))
            m = chance.randint(1, 4)
            order = random_order(chance, value)
            plan = turn_plan(value, m, order)
            self.assertEqual(plan, naive_dealt(value, naive_turn_begins(value, m, order)))
            self.assertIsNone(judge_plan(value, m, plan))

    def test_by_the_begins_of_a_right_plan_nothing_gets_later(self):
        chance = random.Random(66)
        for _ in range(100):
            value = random_work(chance, chance.randint(1, 8))
            m = chance.randint(1, 3)
            right = begins_of(random_right_plan(chance, value, m))
            order = tuple(sorted(right, key=lambda name: right[name]))
            taken = begins_of(turn_plan(value, m, order))
            self.assertTrue(all(taken[name] <= right[name] for name in right))


class LeastPlans(unittest.TestCase):
    def test_of_all_orders(self):
        chance = random.Random(67)
        for many, times in ((0, 1), (1, 3), (2, 20), (3, 40), (4, 30), (5, 8)):
            for _ in range(times):
                value = random_work(chance, many, thick=25)
                m = chance.randint(1, 4)
                plan = least_plan(value, m)
                self.assertEqual(plan, naive_least_plan(value, m))
                self.assertIsNone(judge_plan(value, m, plan))
                self.assertIn(plan, [turn_plan(value, m, order) for order in all_orders(value)])

    def test_never_longer_than_others(self):
        chance = random.Random(68)
        shorter = 0
        for _ in range(60):
            value = random_work(chance, 6)
            m = chance.randint(1, 4)
            least = plan_length(value, least_plan(value, m))
            shorter += least < plan_length(value, list_plan(value, m))
            self.assertLessEqual(least, plan_length(value, list_plan(value, m)))
            for _ in range(5):
                plan = random_right_plan(chance, value, m)
                self.assertIsNone(judge_plan(value, m, plan))
                self.assertLessEqual(least, plan_length(value, plan))
        self.assertGreater(shorter, 3)

    def test_six_jobs_without_needs(self):
        value = book(*[job(name, length=length) for name, length in zip("abcdef", (9, 8, 7, 6, 5, 4))])
        plan = least_plan(value, 2)
        self.assertEqual(plan_length(value, plan), 20)
        orders = [turn_plan(value, 2, order) for order in all_orders(value)]
        self.assertEqual(plan, min(each for each in orders if plan_length(value, each) == 20))

    def test_of_equal_ones_the_least(self):
        self.assertEqual(least_plan(book(job("a"), job("b")), 1), (("a", 0, 0), ("b", 0, 1)))
        self.assertEqual(least_plan(NONE, 2), ())


class LongerExample(unittest.TestCase):
    def test_it(self):
        m, long, short = longer_example()
        self.assertEqual(m, 3)
        for value, length in ((long, 12), (short, 13)):
            self.assertIsNone(judge_book(value))
            self.assertEqual(value[0], ())
            self.assertEqual(len(value[1]), 9)
            self.assertTrue(all(each[4] == () and each[7] == 0 for each in value[1]))
            self.assertIsNone(judge_plan(value, m, list_plan(value, m)))
            self.assertEqual(plan_length(value, list_plan(value, m)), length)
            self.assertEqual(length_of(value, naive_list_begins(value, m)), length)
        self.assertEqual(short[1], tuple(each[:5] + (each[5] - 1,) + each[6:] for each in long[1]))


class Bounds(unittest.TestCase):
    """[5.7]: twenty jobs, eight machines, starts to 1,000, begins to 10,000."""

    def test_twenty_jobs(self):
        chance = random.Random(69)
        for _ in range(5):
            value = random_work(chance, 20, starts=1000, thick=15, longest=20)
            for m in (1, 2, 8):
                plan = list_plan(value, m)
                self.assertIsNone(judge_plan(value, m, plan))
                self.assertEqual(plan, naive_dealt(value, naive_list_begins(value, m)))
                order = random_order(chance, value)
                self.assertIsNone(judge_plan(value, m, turn_plan(value, m, order)))
                late = {name: begin + 10000 - 2000 for name, _, begin in plan}
                self.assertIsNone(judge_plan(value, m, dealt(value, pairs(late))))

    def test_somewhat_more_than_six_jobs_for_the_least_plan(self):
        value = book(*[job(name, length=k + 1) for k, name in enumerate("abcdefg")])
        self.assertEqual(plan_length(value, least_plan(value, 2)), 14)


if __name__ == "__main__":
    unittest.main()
