"""[5.4], [5.5], [5.7]: lines, bounds with their papers, and how far off list plans are."""

import random
import unittest

from effectonce.lines import earliest, judge_bound, judge_line, least_bound, line_bound, line_of, longest_line
from effectonce.plans import dealt, least_plan, list_plan, longer_example, plan_length
from tests.plan_oracles import (all_lines, by_name, ends_of, naive_is_line, naive_judge_line, random_right_plan,
                                random_work)
from tests.samples import ODD_VALUES, book, job

NONE = book()
# By the earliest begins: a 0 to 3, b 3 to 5, c 1 to 5, d 5 to 6, e 9 to 10.
LINED = book(job("a", length=3), job("b", ("a",), length=2), job("c", length=4, start=1), job("d", ("b", "c")),
             job("e", ("a",), start=9, length=1))


def one_line(*lengths):
    """Jobs a, b, c .. each needing the one ahead."""
    names = "abcdefghij"[:len(lengths)]
    return book(*[job(name, names[k - 1:k] if k else (), length=lengths[k]) for k, name in enumerate(names)])


class Earliest(unittest.TestCase):
    def test_it(self):
        self.assertEqual(earliest(LINED), (("a", 0), ("b", 3), ("c", 1), ("d", 5), ("e", 9)))
        self.assertEqual(earliest(NONE), ())
        value = book(job("a", ("z",), start=3), job("z", start=1000, length=20))
        self.assertEqual(earliest(value), (("a", 1020), ("z", 1000)))

    def test_by_chance(self):
        chance = random.Random(71)
        for _ in range(300):
            value = random_work(chance, chance.randint(1, 12))
            begins = dict(earliest(value))
            self.assertEqual(list(begins), sorted(begins))
            ends = ends_of(value, begins)
            for each in value[1]:
                self.assertEqual(begins[each[0]], max([each[7]] + [ends[need] for need in each[2]]))


class LongestLines(unittest.TestCase):
    def test_without_jobs(self):
        self.assertEqual(longest_line(NONE), (0, ()))

    def test_no_further_than_a_start(self):
        self.assertEqual(longest_line(LINED), (10, ("e",)))
        # b begins at its start, just when a ends: the line goes no further.
        self.assertEqual(longest_line(book(job("a", length=3), job("b", ("a",), start=3), job("c", ("b",)))), (5, ("b", "c")))
        self.assertEqual(longest_line(book(job("a", length=3), job("b", ("a",), start=2), job("c", ("b",)))), (5, ("a", "b", "c")))

    def test_the_least_last_job_and_the_least_needs(self):
        value = book(job("a", length=2), job("b", length=2), job("c", length=1), job("d", ("a", "b", "c")), job("e", ("b",)),
                     job("f", length=3))
        self.assertEqual(longest_line(value), (3, ("a", "d")))
        value = book(job("a", length=1), job("b", length=2), job("c", length=2), job("d", ("a", "b", "c")))
        self.assertEqual(longest_line(value), (3, ("b", "d")))

    def test_by_chance(self):
        chance = random.Random(72)
        for _ in range(400):
            value = random_work(chance, chance.randint(1, 10), thick=40, longest=3)
            jobs, begins = by_name(value), dict(earliest(value))
            ends = ends_of(value, begins)
            n, line = longest_line(value)
            self.assertEqual(n, max(ends.values()))
            self.assertTrue(naive_is_line(value, line))
            self.assertEqual(line[-1], min(name for name in ends if ends[name] == n))
            self.assertEqual(begins[line[0]], jobs[line[0]][7])
            for k in range(1, len(line)):
                self.assertGreater(begins[line[k]], jobs[line[k]][7])
                self.assertEqual(line[k - 1], min(need for need in jobs[line[k]][2] if ends[need] == begins[line[k]]))


class LeastBounds(unittest.TestCase):
    THINGS = (("pen", 1), ("saw", 2), ("zip", 0))

    def test_each_paper(self):
        value = book(job("a", uses=(("pen", 1), ("saw", 1)), length=3), job("b", uses=(("saw", 2),), length=4), job("c", length=4),
                     things=self.THINGS)
        self.assertEqual(least_bound(value, 1), (11, ("work",)))
        self.assertEqual(least_bound(value, 2), (6, ("work",)))
        self.assertEqual(least_bound(value, 3), (6, ("thing", "saw")))
        self.assertEqual(least_bound(one_line(2, 3, 4), 2), (9, ("line", ("a", "b", "c"))))

    def test_divided_up(self):
        for m, due in ((1, 11), (2, 6), (3, 4), (4, 3), (5, 3), (6, 2), (8, 2)):
            value = book(*[job(name) for name in "abcdefghijk"])
            self.assertEqual(least_bound(value, m), (due, ("work",)))
        for units, due in ((3, 7), (4, 5), (5, 4), (7, 3), (10, 2)):
            value = book(*[job(name, uses=(("saw", 2),)) for name in "abcdefghij"], things=(("saw", units),))
            self.assertEqual(least_bound(value, 20), (due, ("thing", "saw")))

    def test_the_first_of_equal_ones(self):
        uses = (("pen", 1), ("saw", 1))
        value = book(job("a", uses=uses, length=3), job("b", ("a",), uses=uses, length=4), things=(("pen", 1), ("saw", 1)))
        self.assertEqual(least_bound(value, 1), (7, ("line", ("a", "b"))))
        value = (value[0], tuple(each[:2] + ((),) + each[3:] for each in value[1]))
        self.assertEqual(least_bound(value, 1), (7, ("work",)))
        self.assertEqual(least_bound(value, 2), (7, ("thing", "pen")))
        value = (value[0], tuple(each[:4] + (uses[1:],) + each[5:] for each in value[1]))
        self.assertEqual(least_bound(value, 2), (7, ("thing", "saw")))

    def test_without_jobs_and_units(self):
        self.assertEqual(least_bound(NONE, 3), (0, ("line", ())))
        self.assertEqual(least_bound(book(things=self.THINGS), 3), (0, ("line", ())))
        self.assertEqual(least_bound(book(job("a"), things=(("zip", 0),)), 1), (1, ("line", ("a",))))

    def test_no_right_plan_is_shorter(self):
        chance = random.Random(73)
        tight = set()
        for _ in range(500):
            value = random_work(chance, chance.randint(1, 7), thick=chance.choice((5, 50)))
            m = chance.randint(1, 4)
            n, paper = least_bound(value, m)
            self.assertIsNone(judge_bound(value, m, (n, paper)))
            self.assertEqual(judge_bound(value, m, (n + 1, paper)), ("shows", n))
            for plan in (list_plan(value, m), random_right_plan(chance, value, m)):
                self.assertLessEqual(n, plan_length(value, plan))
                if n == plan_length(value, plan):
                    tight.add(paper[0])
        self.assertEqual(tight, {"line", "work", "thing"})


class JudgedBounds(unittest.TestCase):
    THINGS = (("pen", 2), ("saw", 1), ("zip", 0))
    VALUE = book(job("a", uses=(("pen", 1),), length=3, start=2), job("b", ("a",), uses=(("pen", 2),), length=4),
                 job("c", uses=(("saw", 1),), length=5), things=THINGS)

    def test_what_each_paper_shows(self):
        for paper, m, low in ((("work",), 1, 12), (("work",), 2, 6), (("work",), 5, 3), (("thing", "pen"), 1, 6),
                              (("thing", "saw"), 4, 5), (("line", ()), 1, 0), (("line", ("a",)), 2, 5),
                              (("line", ("b",)), 2, 4), (("line", ("a", "b")), 2, 9), (("line", ("c",)), 1, 5)):
            for n in range(low + 1):
                self.assertIsNone(judge_bound(self.VALUE, m, (n, paper)), (n, paper))
            for n in (low + 1, low + 7, 10 ** 59):
                self.assertEqual(judge_bound(self.VALUE, m, (n, paper)), ("shows", low), (n, paper))

    def test_form(self):
        for value in (None, 6, (), (6,), (6, ("work",), 0), [6, ("work",)], (6, ["work"]), (("work",), 6), (-1, ("work",)),
                      (True, ("work",)), (False, ("work",)), ("6", ("work",)), (None, ("work",)), (6, "work"), (6, ()),
                      (6, ("work", ())), (6, ("works",)), (6, ("line",)), (6, ("line", None)), (6, ("line", "a")),
                      (6, ("line", ["a"])), (6, ("line", [])), (6, ("line", ("z",))), (6, ("line", ("b", "a"))),
                      (6, ("line", ("a", "a"))), (6, ("line", ("a", "c"))), (6, ("line", ("a", None))), (6, ("line", (True,))),
                      (6, ("line", ("a",), ())), (6, ("thing",)), (6, ("thing", "zip")), (6, ("thing", "axe")),
                      (6, ("thing", "a")), (6, ("thing", None)), (6, ("thing", ["pen"])), (6, ("thing", ("pen",))),
                      (6, ("thing", "pen", 1)), (6, ["thing", "pen"]), (6, {"thing": "pen"}), (0, None), (0, ("line", (("a",),)))):
            self.assertEqual(judge_bound(self.VALUE, 2, value), ("form",), value)

    def test_odd_values(self):
        for value in ODD_VALUES:
            self.assertEqual(judge_bound(self.VALUE, 2, value), ("form",))
            self.assertEqual(judge_bound(self.VALUE, 2, (1, value)), ("form",))
            good = value in (0, 1, 5) and not isinstance(value, bool)
            due = None if good else ("shows", 6) if value == 10 ** 59 else ("form",)
            self.assertEqual(judge_bound(self.VALUE, 2, (value, ("work",))), due)
            self.assertEqual(judge_bound(self.VALUE, 2, (1, ("thing", value))), ("form",))
            self.assertEqual(judge_bound(self.VALUE, 2, (0, ("line", value))), None if value in ((), ("a",), ("a", "b")) else ("form",))


class LinesOf(unittest.TestCase):
    def test_without_jobs(self):
        self.assertEqual(line_of(NONE, 3), ())

    def test_the_least_of_those_that_end_last(self):
        value = book(job("a", length=1), job("b", length=2), job("c", length=2), job("d", ("a", "b", "c")),
                     job("e", ("a",)))
        self.assertEqual(line_of(value, 5), ("b", "d"))
        self.assertEqual(line_of(book(job("a"), job("b")), 2), ("a",))

    def test_a_line_goes_on_though_jobs_waited_for_machines(self):
        # On one machine a ends at 2, then c runs to 7, then b: a is still the need of b that ended last.
        value = book(job("a", length=2), job("b", ("a",)), job("c", length=5, urgency=1), job("d", ("b",)))
        self.assertEqual(list_plan(value, 1), (("a", 0, 5), ("b", 0, 7), ("c", 0, 0), ("d", 0, 8)))
        self.assertEqual(line_of(value, 1), ("a", "b", "d"))

    def test_starts_that_stop_it(self):
        for start, due in ((0, ("a", "b", "c")), (2, ("a", "b", "c")), (3, ("b", "c")), (5, ("b", "c"))):
            value = book(job("a", length=2), job("b", ("a",), start=start), job("c", ("b",), start=start))
            self.assertEqual(line_of(value, 2), due)
        value = book(job("a", length=2), job("b", ("a",)), job("c", ("b",), start=9))
        self.assertEqual(line_of(value, 2), ("c",))

    def test_by_chance(self):
        chance = random.Random(74)
        for _ in range(400):
            value = random_work(chance, chance.randint(1, 10), things=chance.randrange(2), thick=30, longest=4)
            m = chance.randint(1, 4)
            self.assertEqual(line_of(value, m), line_by_words(value, m))


def line_by_words(value, m):
    jobs = by_name(value)
    plan = list_plan(value, m)
    ends = {name: begin + jobs[name][5] for name, machine, begin in plan}
    line = [min(name for name in ends if ends[name] == max(ends.values()))]
    while True:
        needs = jobs[line[0]][2]
        last = max([ends[need] for need in needs], default=-1)
        if last < jobs[line[0]][7]:
            return tuple(line)
        line.insert(0, min(need for need in needs if ends[need] == last))


class JudgedLines(unittest.TestCase):
    def assert_form(self, value, m, plan, line):
        self.assertEqual(judge_line(value, m, plan, line), ("form",), line)

    def test_form(self):
        value = one_line(1, 2, 3)
        plan = list_plan(value, 2)
        for line in ODD_VALUES + ((), ("z",), ("c", "b"), ("a", "c"), ("a", "b", "c", "c"), ["a", "b", "c"], "abc", ("b", "c", None),
                                  (("a", "b", "c"),), ("a", ["b"], "c"), ("a", "b", True)):
            if line not in (("a",), ("a", "b")):
                self.assert_form(value, 2, plan, line)
        for line in ODD_VALUES:
            self.assertEqual(judge_line(NONE, 2, (), line), None if line == () else ("form",))

    def test_last(self):
        value = one_line(1, 2, 3)
        for m in (1, 2):
            plan = list_plan(value, m)
            for line in (("a",), ("b",), ("a", "b")):
                self.assertEqual(judge_line(value, m, plan, line), ("last",))
        for line, due in ((("c",), ("idle", 0)), (("b", "c"), ("idle", 0)), (("a", "b", "c"), None)):
            self.assertEqual(judge_line(value, 2, list_plan(value, 2), line), due)
            self.assertIsNone(judge_line(value, 1, list_plan(value, 1), line))

    def test_idle(self):
        value = book(job("a", length=2), job("b", ("a",), length=2), job("c", length=3))
        for begins, m, due in (((0, 2, 0), 2, None), ((0, 3, 0), 2, ("idle", 2)), ((1, 3, 0), 2, ("idle", 0)), ((0, 3, 0), 1, None),
                               ((0, 9, 2), 2, ("idle", 2)), ((0, 9, 2), 1, ("idle", 5)), ((0, 9, 4), 1, ("idle", 2)),
                               ((7, 9, 2), 2, ("idle", 0)), ((3, 5, 0), 1, None), ((4, 6, 0), 1, ("idle", 3))):
            plan = dealt(value, tuple(zip("abc", begins)))
            self.assertEqual(judge_line(value, m, plan, ("a", "b")), due, (begins, m))

    def test_from_the_start_that_the_book_tells(self):
        value = book(job("a", start=3), job("b", start=1))
        self.assertIsNone(judge_line(value, 1, (("a", 0, 3), ("b", 0, 1)), ("a",)))
        self.assertEqual(judge_line(value, 1, (("a", 0, 5), ("b", 0, 1)), ("a",)), ("idle", 3))
        self.assertEqual(judge_line(value, 1, (("a", 0, 5), ("b", 0, 3)), ("a",)), ("idle", 4))
        self.assertIsNone(judge_line(value, 1, (("a", 0, 4), ("b", 0, 3)), ("a",)))

    def test_by_chance(self):
        chance = random.Random(75)
        met = {"none": 0, "last": 0, "idle": 0}
        for _ in range(300):
            value = random_work(chance, chance.randint(1, 6), things=chance.randrange(2), thick=40)
            m = chance.randint(1, 3)
            for plan in (list_plan(value, m), random_right_plan(chance, value, m)):
                for line in all_lines(value):
                    due = naive_judge_line(value, m, plan, line)
                    self.assertEqual(judge_line(value, m, plan, line), due)
                    met[due[0] if due else "none"] += 1
        self.assertGreater(min(met.values()), 100)


class NeverFarOff(unittest.TestCase):
    """What [5.5] says FOR ALL books whose jobs use no things."""

    def test_line_and_bound(self):
        chance = random.Random(76)
        for _ in range(400):
            value = random_work(chance, chance.randint(1, 14), things=False, thick=25)
            m = chance.randint(1, 5)
            plan, line = list_plan(value, m), line_of(value, m)
            self.assertIsNone(judge_line(value, m, plan, line))
            self.assertLessEqual(m * plan_length(value, plan), line_bound(value, m, line))

    def test_lines_of_any_right_plan_bound_it(self):
        chance = random.Random(77)
        kept = 0
        for _ in range(600):
            value = random_work(chance, chance.randint(1, 6), things=chance.randrange(2), thick=50)
            m = chance.randint(1, 3)
            plan = random_right_plan(chance, value, m)
            for line in all_lines(value):
                if judge_line(value, m, plan, line) is None:
                    kept += 1
                    self.assertLessEqual(m * plan_length(value, plan), line_bound(value, m, line))
        self.assertGreater(kept, 100)

    def test_twice_the_least_at_most(self):
        chance = random.Random(78)
        for starts in (0, 9):
            for _ in range(40):
                value = random_work(chance, 6, things=False, starts=starts)
                m = chance.randint(1, 4)
                length, least = plan_length(value, list_plan(value, m)), plan_length(value, least_plan(value, m))
                self.assertLessEqual(length, 2 * least)
                if starts == 0:
                    self.assertLessEqual(m * length, (2 * m - 1) * least)

    def test_books_with_things_are_reckoned_too(self):
        # One pen for two jobs: the second waits with a machine idle beside it.
        value = book(job("a", uses=(("pen", 1),), length=2), job("b", uses=(("pen", 1),), length=3), things=(("pen", 1),))
        self.assertEqual(line_of(value, 2), ("b",))
        self.assertEqual(judge_line(value, 2, list_plan(value, 2), ("b",)), ("idle", 0))
        self.assertEqual(line_bound(value, 2, ("b",)), 8)

    def test_line_bound(self):
        value = book(job("a", length=2, start=5), job("b", ("a",), length=3), job("c", length=4))
        for m, line, due in ((1, ("a", "b"), 14), (2, ("a", "b"), 24), (3, ("a", "b"), 34), (3, ("b",), 15), (8, ("a",), 63),
                             (2, (), 0), (1, ("c",), 9)):
            self.assertEqual(line_bound(value, m, line), due)
        self.assertEqual(line_bound(NONE, 4, ()), 0)

    def test_the_example_of_graham(self):
        m, long, short = longer_example()
        for value in (long, short):
            line = line_of(value, m)
            self.assertIsNone(judge_line(value, m, list_plan(value, m), line))
            self.assertLessEqual(m * plan_length(value, list_plan(value, m)), line_bound(value, m, line))


class Bounds(unittest.TestCase):
    """[5.7]"""

    def test_twenty_jobs(self):
        chance = random.Random(79)
        for _ in range(3):
            value = random_work(chance, 20, things=False, starts=1000, thick=15, longest=20)
            plan = list_plan(value, 8)
            self.assertLessEqual(least_bound(value, 8)[0], plan_length(value, plan))
            self.assertIsNone(judge_line(value, 8, plan, line_of(value, 8)))
            self.assertEqual(longest_line(value)[0], max(ends_of(value, dict(earliest(value))).values()))
            late = tuple((name, machine, begin + 10000) for name, machine, begin in plan)
            line = line_of(value, 8)
            self.assertEqual(judge_line(value, 8, late, line), naive_judge_line(value, 8, late, line))


if __name__ == "__main__":
    unittest.main()
