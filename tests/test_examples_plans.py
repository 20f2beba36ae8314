"""The examples of the document's interface, stages 5 and 6, with the answers that stand there."""

import unittest

from effectonce.days import (calendar_of, count_times, first_unlike, has_time, is_calendar, is_endless, next_time,
                             plain_calendar, repeats, times_in)
from effectonce.lines import earliest, judge_bound, judge_line, least_bound, line_bound, line_of, longest_line
from effectonce.plans import (dealt, job_order, judge_plan, least_plan, list_plan, longer_example, plan_length,
                              turn_plan)
from effectonce.series import made_book, made_jobs, made_name, made_number, makes

A, B = ("a", "all", (), ("value", 1), (), 3, 1, 0, 0), ("b", "all", ("a",), ("value", 1), (("pen", 1),), 2, 1, 0, 0)
BOOK = ((("pen", 1),), (A, B, ("c", "all", (), ("value", 1), (("pen", 1),), 4, 1, 1, 5)))
FREE = ((), (A, B[:4] + ((),) + B[5:], ("c", "all", (), ("value", 1), (), 4, 1, 0, 5)))


class PlansExample(unittest.TestCase):
    def test_plans(self):
        self.assertEqual(
            [job_order(BOOK), list_plan(BOOK, 2), plan_length(BOOK, list_plan(BOOK, 2))],
            [('c', 'a', 'b'), (('a', 0, 0), ('b', 0, 5), ('c', 1, 1)), 7])
        self.assertEqual(
            [turn_plan(BOOK, 1, ("a", "b", "c")), least_plan(BOOK, 2), dealt(BOOK, (("a", 0), ("b", 5), ("c", 2)))],
            [(('a', 0, 0), ('b', 0, 3), ('c', 0, 5)), (('a', 0, 0), ('b', 0, 5), ('c', 1, 1)),
             (('a', 0, 0), ('b', 0, 5), ('c', 1, 2))])

    def test_judge_plan(self):
        self.assertEqual(
            [judge_plan(BOOK, 2, list_plan(BOOK, 2)), judge_plan(BOOK, 2, None),
             judge_plan(BOOK, 2, (("a", 0, 0), ("b", 1, 3), ("c", 0, 0)))],
            [None, ('form',), ('start', 'c')])
        self.assertEqual(
            [judge_plan(BOOK, 2, (("a", 0, 0), ("b", 1, 2), ("c", 0, 3))),
             judge_plan(BOOK, 2, (("a", 0, 0), ("b", 0, 5), ("c", 0, 1)))],
            [('needs', 'b', 'a'), ('machine', 'a', 'c')])
        self.assertEqual(judge_plan(BOOK, 2, (("a", 0, 0), ("b", 0, 4), ("c", 1, 1))), ('units', 4, 'pen'))

    def test_longer_example(self):
        m, long, short = longer_example()
        self.assertEqual([m, plan_length(long, list_plan(long, m)), plan_length(short, list_plan(short, m))], [3, 12, 13])


class LinesExample(unittest.TestCase):
    def test_bounds(self):
        self.assertEqual(
            [earliest(BOOK), longest_line(BOOK), least_bound(BOOK, 2), least_bound(FREE, 1), least_bound(FREE, 2)],
            [(('a', 0), ('b', 3), ('c', 1)), (5, ('a', 'b')), (6, ('thing', 'pen')), (9, ('work',)),
             (5, ('line', ('a', 'b')))])
        self.assertEqual(
            [judge_bound(BOOK, 2, (6, ("thing", "pen"))), judge_bound(BOOK, 2, (6, ("work",))),
             judge_bound(BOOK, 2, (0, ("line", ()))), judge_bound(BOOK, 2, 6)],
            [None, ('shows', 5), None, ('form',)])

    def test_lines(self):
        self.assertEqual(
            [line_of(FREE, 2), line_bound(FREE, 2, ("a", "b")), judge_line(FREE, 2, list_plan(FREE, 2), ("a", "b")),
             judge_line(FREE, 2, list_plan(FREE, 2), ("b",))],
            [('a', 'b'), 14, None, None])
        self.assertEqual(
            [judge_line(FREE, 2, list_plan(FREE, 2), ("c",)), judge_line(FREE, 1, list_plan(FREE, 1), ("a", "b")),
             judge_line(FREE, 2, list_plan(FREE, 2), ())],
            [('last',), None, ('form',)])
        self.assertEqual(judge_line(FREE, 2, (('a', 0, 0), ('b', 0, 4), ('c', 1, 0)), ('a', 'b')), ('idle', 3))


THIRD, EVEN = ("every", 6, 3, None), ("every", 2, 4, None)
LESS = ("without", EVEN, ("list", (8, 9)))


class DaysExample(unittest.TestCase):
    def test_times(self):
        self.assertEqual(
            [is_calendar(LESS), is_calendar(("every", 0, 1, None)), is_calendar(("list", (3, 3))), has_time(LESS, 6),
             has_time(LESS, 8), times_in(LESS, 5, 13)],
            [True, False, False, True, False, (6, 10, 12)])

    def test_repeating(self):
        self.assertEqual(
            [next_time(LESS, 7), next_time(("every", 3, 1, 9), 8), count_times(LESS, 13), repeats(LESS),
             plain_calendar(LESS), plain_calendar(THIRD)],
            [10, None, 4, (9, 2), ((4, 6), 9, 2, (1,)), ((), 0, 6, (3,))])
        self.assertEqual(
            [plain_calendar(("common", EVEN, ("every", 3, 0, 10))), plain_calendar(("moved", ("every", 5, 1, 12), 3)),
             plain_calendar(("every", 3, 5, 2))],
            [((6,), 7, 1, ()), ((4, 9, 14), 15, 1, ()), ((), 0, 1, ())])

    def test_unlike(self):
        both = ("both", ("every", 4, 0, None), ("every", 4, 2, None))
        self.assertEqual(
            [first_unlike(EVEN, LESS), first_unlike(both, ("every", 2, 0, None)), is_endless(LESS), is_endless(("list", ()))],
            [8, None, True, False])
        self.assertIs(plain_calendar(calendar_of(plain_calendar(LESS))) == plain_calendar(LESS), True)


PARTS = ("all", (), ("plus", ("last",), ("value", 1)), (), 2, 1, 0)
DAILY = ("day", THIRD, 1, PARTS)


class SeriesExample(unittest.TestCase):
    def test_names(self):
        self.assertEqual(
            [made_name("day", 0), made_name("day", 27), made_number("day", "daybac"), made_number("day", "dayba")],
            ['dayaaa', 'dayabb', 678, None])

    def test_jobs(self):
        self.assertEqual(
            made_jobs(DAILY, 0, 10),
            (('dayaaa', 'all', (), ('plus', ('value', None), ('value', 1)), (), 2, 1, 3, 0),
             ('dayaab', 'all', ('dayaaa',), ('plus', ('result', 'dayaaa'), ('value', 1)), (), 2, 1, 9, 0)))
        self.assertEqual(
            [made_jobs(DAILY, 4, 10) == made_jobs(DAILY, 0, 10)[1:], made_jobs(DAILY, 4, 9),
             len(made_book((), (), [DAILY], 100)[1]), makes([DAILY], "dayaad"), makes([DAILY], "day")],
            [True, (), 17, (0, 3), None])


if __name__ == "__main__":
    unittest.main()
