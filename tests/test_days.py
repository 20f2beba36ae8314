"""[6.1] to [6.3], [6.6]: calendars, their times, and how they repeat."""

import random
import unittest

from effectonce.days import (calendar_of, count_times, first_unlike, has_time, is_calendar, is_endless, next_time,
                             plain_calendar, repeats, times_in)
from tests.plan_oracles import random_calendar, times_of
from tests.samples import ODD_VALUES

THIRD, EVEN, NEVER = ("every", 6, 3, None), ("every", 2, 4, None), ("list", ())

# One of each form, and forms within forms, with their times below 30.
TOLD = (
    (("every", 7, 3, None), (3, 10, 17, 24)),
    (("every", 7, 3, 17), (3, 10, 17)),
    (("every", 7, 3, 16), (3, 10)),
    (("every", 7, 3, 3), (3,)),
    (("every", 7, 3, 2), ()),
    (("every", 1, 27, None), (27, 28, 29)),
    (("list", ()), ()),
    (("list", (0, 5, 29)), (0, 5, 29)),
    (("both", ("list", (1, 8)), ("every", 8, 0, 20)), (0, 1, 8, 16)),
    (("common", ("every", 3, 0, None), ("every", 4, 0, None)), (0, 12, 24)),
    (("without", ("every", 4, 0, None), ("every", 6, 0, None)), (4, 8, 16, 20, 28)),
    (("moved", ("every", 10, 1, None), 5), (6, 16, 26)),
    (("moved", ("moved", ("list", (0, 2)), 3), 4), (7, 9)),
    (("moved", ("without", ("moved", ("every", 5, 0, None), 1), ("list", (6,))), 2), (3, 13, 18, 23, 28)),
    (("both", ("moved", ("list", (4,)), 0), ("common", ("list", (1, 2, 3)), ("without", ("every", 1, 2, None), ("list", (3,))))), (2, 4)),
)


def parts_of(calendar):
    inner = {"moved": calendar[1:2], "every": (), "list": ()}.get(calendar[0], calendar[1:])
    return [calendar] + [part for each in inner for part in parts_of(each)]


def nest(many, word="moved"):
    """A calendar of so many parts."""
    c = ("list", (1,))
    while len(parts_of(c)) < many:
        c = ("moved", c, 1) if word == "moved" or len(parts_of(c)) + 1 == many else (word, c, NEVER)
    return c


class Form(unittest.TestCase):
    def assert_all(self, good, bad):
        for value in good:
            self.assertIs(is_calendar(value), True, value)
            for outer in (("moved", value, 3), ("both", value, NEVER), ("common", EVEN, value), ("without", value, value)):
                self.assertIs(is_calendar(outer), True, outer)
        for value in bad:
            self.assertIs(is_calendar(value), False, value)
            for outer in (("moved", value, 3), ("both", value, NEVER), ("common", EVEN, value), ("without", NEVER, value)):
                self.assertIs(is_calendar(outer), False, outer)

    def test_every(self):
        self.assert_all(
            [("every", 1, 0, None), ("every", 60, 1000, 10000), ("every", 60, 1000, 0), ("every", 2, 5, 4), ("every", 2, 5, 5)],
            [("every", 0, 0, None), ("every", 61, 0, None), ("every", 1, -1, None), ("every", 1, 1001, None), ("every", 1, 0, -1),
             ("every", 1, 0, 10001), ("every", True, 0, None), ("every", 1, False, None), ("every", 1, True, None),
             ("every", 1, 0, True), ("every", 1, 0, False), ("every", 1, 0), ("every", 1), ("every",), ("every", 1, 0, None, None),
             ("every", None, 0, None), ("every", 1, None, None), ("every", "1", 0, None), ("every", 1, 0, "9"), ("every", 1, 0, ()),
             ["every", 1, 0, None], ("Every", 1, 0, None), ("every", (1,), 0, None), ("every", -1, 0, None), ("every", 10 ** 59, 0, 0)])

    def test_list(self):
        self.assert_all(
            [("list", ()), ("list", (0,)), ("list", (10000,)), ("list", (0, 1, 10000)), ("list", tuple(range(40))),
             ("list", tuple(range(9961, 10001)))],
            [("list", tuple(range(41))), ("list", (3, 3)), ("list", (4, 3)), ("list", (0, 2, 1)), ("list", (-1,)), ("list", (10001,)),
             ("list", (0, 10001)), ("list", (True,)), ("list", (False,)), ("list", (0, True)), ("list", (True, 2)), ("list", [1]),
             ("list", []), ("list", None), ("list", 1), ("list", ("1",)), ("list", (None,)), ("list", ((1,),)), ("list", ([1],)),
             ("list",), ("list", (), ()), ("list", 1, 2), ["list", ()], ("list", {}), ("list", {1: 2}), ("list", "")])

    def test_paired(self):
        for word in ("both", "common", "without"):
            self.assert_all(
                [(word, NEVER, NEVER), (word, EVEN, THIRD), (word, ("moved", EVEN, 2), (word, EVEN, EVEN))],
                [(word,), (word, EVEN), (word, EVEN, EVEN, EVEN), (word, EVEN, None), (word, None, EVEN), (word, EVEN, 3),
                 (word, list(EVEN), EVEN), (word, EVEN, list(EVEN)), [word, EVEN, EVEN], (word, (EVEN, EVEN)), (word, (), ()),
                 (word + "s", EVEN, EVEN), (word.upper(), EVEN, EVEN)])

    def test_moved(self):
        self.assert_all(
            [("moved", EVEN, 0), ("moved", EVEN, 1000), ("moved", ("moved", NEVER, 5), 1)],
            [("moved", EVEN, -1), ("moved", EVEN, 1001), ("moved", EVEN, True), ("moved", EVEN, False), ("moved", EVEN, None),
             ("moved", EVEN, "1"), ("moved", EVEN), ("moved",), ("moved", EVEN, 1, 1), ("moved", 1, EVEN), ("moved", None, 1),
             ("moved", EVEN, EVEN), ("moved", list(EVEN), 1), ["moved", EVEN, 1]])

    def test_twenty_parts(self):
        for word in ("moved", "both", "common", "without"):
            for many in (1, 2, 19, 20):
                self.assertEqual(len(parts_of(nest(many, word))), many)
                self.assertIs(is_calendar(nest(many, word)), True)
            for many in (21, 22, 39):
                self.assertIs(is_calendar(nest(many, word)), False)

    def test_odd_values(self):
        for value in ODD_VALUES + (0, ("every", "list"), ("both",), ("list", "list"), {"list": ()}, ({}, EVEN), (None,), ([],), ((),)):
            self.assertIs(is_calendar(value), False, value)
            self.assertIs(is_calendar(("moved", EVEN, value)), value in (0, 1, 5) and not isinstance(value, bool), value)
            self.assertIs(is_calendar((value, EVEN, EVEN)), False)
            self.assertIs(is_calendar(("list", value)), value == ())

    def test_told_ones(self):
        for calendar, _ in TOLD:
            self.assertIs(is_calendar(calendar), True)


class Times(unittest.TestCase):
    def test_told_ones(self):
        for calendar, times in TOLD:
            self.assertEqual(times_in(calendar, 0, 30), times)
            for t in range(30):
                self.assertIs(has_time(calendar, t), t in times)
                self.assertEqual(count_times(calendar, t), len([each for each in times if each < t]))
                later = [each for each in times if each >= t]
                if later:
                    self.assertEqual(next_time(calendar, t), later[0])
            for low in range(0, 31, 3):
                for high in range(0, 31, 3):
                    self.assertEqual(times_in(calendar, low, high), tuple(t for t in times if low <= t < high))

    def test_high_not_above_low(self):
        for calendar in (("every", 1, 0, None), ("list", (0, 5)), ("moved", EVEN, 3)):
            for low, high in ((5, 5), (5, 4), (5, 0), (0, 0), (20000, 1)):
                self.assertEqual(times_in(calendar, low, high), ())

    def test_next_with_and_without_end(self):
        self.assertEqual([next_time(("every", 60, 1000, None), t) for t in (0, 1000, 1001, 1060, 20000)], [1000, 1000, 1060, 1060, 20020])
        self.assertEqual([next_time(("every", 60, 10, 100), t) for t in (0, 10, 11, 70, 71)], [10, 10, 70, 70, None])
        self.assertEqual([next_time(("list", (3, 9999)), t) for t in (0, 3, 4, 9999, 10000, 20000)], [3, 3, 9999, 9999, None, None])
        never = ("common", ("every", 2, 0, None), ("every", 2, 1, None))
        self.assertEqual([next_time(never, t) for t in (0, 20000)], [None, None])
        rare = ("common", ("every", 59, 7, None), ("every", 60, 11, None))
        due = min(t for t in range(59 * 60 + 20) if t % 59 == 7 and t % 60 == 11)
        self.assertEqual([next_time(rare, t) for t in (0, due, due + 1)], [due, due, due + 59 * 60])

    def test_by_chance(self):
        chance = random.Random(81)
        for _ in range(600):
            calendar = random_calendar(chance, chance.randint(0, 3))
            due = times_of(calendar, 200)
            low, high = chance.randint(0, 150), chance.randint(0, 200)
            self.assertEqual(times_in(calendar, low, high), tuple(sorted(t for t in due if low <= t < high)))
            self.assertEqual(count_times(calendar, high), len([t for t in due if t < high]))
            self.assertIs(has_time(calendar, low), low in due)
            later = [t for t in due if t >= low]
            # All that the small numbers of these calendars can do is done below 200, behind 180 once more.
            self.assertEqual(next_time(calendar, low), min(later, default=None))


class Repeating(unittest.TestCase):
    def test_the_least_ones(self):
        for calendar, due in (
                (("every", 6, 3, None), (0, 6)), (("every", 6, 5, None), (0, 6)), (("every", 6, 6, None), (1, 6)),
                (("every", 6, 8, None), (3, 6)), (("every", 1, 5, None), (5, 1)), (("every", 6, 3, 20), (16, 1)),
                (("every", 6, 3, 2), (0, 1)), (NEVER, (0, 1)), (("list", (4,)), (5, 1)), (("list", (0, 7)), (8, 1)),
                (("both", ("every", 4, 0, None), ("every", 4, 2, None)), (0, 2)),
                (("both", EVEN, ("list", (0, 2))), (0, 2)), (("common", EVEN, ("every", 3, 0, None)), (1, 6)),
                (("without", EVEN, EVEN), (0, 1)), (("without", ("every", 1, 0, None), ("every", 2, 0, None)), (0, 2)),
                (("without", ("every", 1, 0, None), ("list", (12,))), (13, 1)), (("moved", ("every", 1, 0, None), 7), (7, 1)),
                (("moved", ("every", 6, 3, None), 3), (1, 6)), (("moved", NEVER, 1000), (0, 1)),
                (("both", ("every", 2, 0, None), ("every", 2, 1, None)), (0, 1)),
                (("both", ("every", 2, 0, None), ("every", 2, 9, None)), (8, 1)),
                (("common", ("every", 2, 0, None), ("every", 4, 1, None)), (0, 1))):
            self.assertEqual(repeats(calendar), due, calendar)

    def test_no_less_by_brute_force(self):
        chance = random.Random(82)
        for _ in range(300):
            calendar = random_calendar(chance, chance.randint(0, 3))
            # Such calendars repeat below 130 with 12, at the latest.
            times = times_of(calendar, 200)
            has = [t in times for t in range(200)]
            q = min(q for q in range(1, 13) if all(has[t] == has[t + q] for t in range(130, 180)))
            n = min(n for n in range(131) if all(has[t] == has[t + q] for t in range(n, 180)))
            self.assertEqual(repeats(calendar), (n, q))
            early = tuple(t for t in range(n) if has[t])
            rests = tuple(t for t in range(q) if has[n + t])
            self.assertEqual(plain_calendar(calendar), (early, n, q, rests))
            self.assertIs(is_endless(calendar), max(times, default=0) > 180)

    def test_plain_forms(self):
        less = ("without", EVEN, ("list", (8, 9)))
        for calendar, due in ((less, ((4, 6), 9, 2, (1,))), (THIRD, ((), 0, 6, (3,))), (NEVER, ((), 0, 1, ())),
                              (("list", (0, 10000)), ((0, 10000), 10001, 1, ())), (("every", 1, 0, None), ((), 0, 1, (0,))),
                              (("every", 1, 2, None), ((), 2, 1, (0,))), (("moved", THIRD, 4), ((), 2, 6, (5,)))):
            self.assertEqual(plain_calendar(calendar), due)

    def test_same_times_told_otherwise(self):
        every = ("every", 12, 5, None)
        for other in (("both", every, every), ("common", every, every), ("moved", ("every", 12, 0, None), 5), ("without", every, NEVER),
                      ("both", ("every", 24, 5, None), ("every", 24, 17, None)), ("both", ("list", (5,)), ("every", 12, 17, None)),
                      ("common", ("every", 4, 1, None), ("every", 3, 2, None)), ("both", ("every", 12, 5, 500), ("every", 12, 5, None)),
                      ("without", ("every", 12, 5, None), ("every", 12, 6, None)), ("both", ("every", 12, 17, None), ("every", 12, 5, 6))):
            self.assertEqual(plain_calendar(other), plain_calendar(every))
            self.assertIsNone(first_unlike(other, every))
        for other, due in ((("every", 12, 17, None), 5), (("every", 12, 5, 10000), 10001 + (5 - 10001) % 12),
                           (("both", every, ("list", (9999,))), 9999), (("without", every, ("list", (17,))), 17),
                           (("every", 6, 5, None), 11), (("moved", every, 12), 5), (NEVER, 5)):
            self.assertNotEqual(plain_calendar(other), plain_calendar(every))
            self.assertEqual(first_unlike(other, every), due)
            self.assertEqual(first_unlike(every, other), due)

    def test_equal_forms_exactly_if_the_times_are_the_same(self):
        chance = random.Random(83)
        met = {True: 0, False: 0}
        for _ in range(600):
            c, d = [random_calendar(chance, chance.randint(0, 2), (1, 2, 3), 4) for _ in range(2)]
            unlike = times_of(c, 120) ^ times_of(d, 120)
            self.assertEqual(plain_calendar(c) == plain_calendar(d), not unlike)
            self.assertEqual(first_unlike(c, d), min(unlike, default=None))
            met[not unlike] += 1
        self.assertGreater(min(met.values()), 20)

    def test_unlike_far_out(self):
        far = ("every", 1, 0, 10000)
        for _ in range(19):
            far = ("moved", far, 1000)
        self.assertEqual(first_unlike(far, ("without", far, NEVER)), None)
        self.assertEqual(first_unlike(far, ("every", 1, 1000, None)), 1000)
        whole = ("both", ("every", 1, 0, None), NEVER)
        for _ in range(18):
            whole = ("moved", whole, 1000)
        early, late = ("every", 1, 0, None), ("every", 1, 0, 10000)
        for _ in range(18):
            early, late = ("moved", early, 1000), ("moved", late, 1000)
        self.assertIsNone(first_unlike(early, whole))
        self.assertEqual(first_unlike(early, late), 28001)
        self.assertEqual(repeats(late), (28001, 1))

    def test_calendars_of_plain_forms(self):
        chance = random.Random(84)
        for _ in range(400):
            plain = plain_calendar(random_calendar(chance, chance.randint(0, 3)))
            made = calendar_of(plain)
            self.assertEqual(plain_calendar(made), plain)
            self.assertEqual(repeats(made), plain[1:3])
            self.assertEqual(is_endless(made), plain[3] != ())
            self.assertEqual(times_in(made, 0, plain[1]), plain[0])
            self.assertIsNone(first_unlike(made, calendar_of(plain)))


class Bounds(unittest.TestCase):
    """[6.6]: a common multiple of 5,000, times to 20,000, a stretch of 3,000, sixty early times and sixty rests."""

    def test_a_long_period(self):
        for c, q in ((("both", ("every", 49, 3, None), ("both", ("every", 50, 0, None), ("every", 2, 999, None))), 2450),
                     (("both", ("every", 59, 3, None), ("both", ("every", 42, 1, None), ("every", 14, 1000, None))), 59 * 42),
                     (("both", ("every", 55, 3, None), ("both", ("every", 18, 1, None), ("every", 30, 1000, None))), 990),
                     (("common", ("every", 53, 1000, None), ("every", 47, 999, None)), 53 * 47),
                     (("common", ("every", 40, 0, None), ("every", 25, 0, None)), 200),
                     (("without", ("every", 48, 0, None), ("common", ("every", 52, 7, None), ("every", 8, 1, None))), 48),
                     (("both", ("every", 60, 0, None), ("both", ("every", 49, 0, None), ("every", 7, 0, None))), 420),
                     (("both", ("every", 50, 0, None), ("both", ("every", 48, 1, None), ("every", 16, 30, 10000))), 1200),
                     (("both", ("every", 59, 0, None), ("moved", ("every", 56, 9, None), 1000)), 3304),
                     (("both", ("every", 40, 0, None), ("both", ("every", 25, 3, None), ("every", 24, 5, None))), 600),
                     (("both", ("every", 41, 0, None), ("common", ("every", 60, 3, None), ("every", 24, 15, None))), 4920)):
            times = times_of(c, 25000)
            has = [t in times for t in range(25000)]
            self.assertTrue(all(has[t] == has[t + q] for t in range(12000, 20000)))
            for d in range(1, q):
                if q % d == 0:
                    self.assertFalse(all(has[t] == has[t + d] for t in range(12000, 20000)), (c, d))
            n = max([t for t in range(12000) if has[t] != has[t + q]], default=-1) + 1
            self.assertEqual(repeats(c), (n, q))

    def test_late_times(self):
        c = ("both", ("every", 37, 11, None), ("moved", ("every", 41, 500, None), 1000))
        due = times_of(c, 23001)
        self.assertEqual(times_in(c, 20000, 23000), tuple(sorted(t for t in due if 20000 <= t < 23000)))
        self.assertEqual(count_times(c, 20000), len([t for t in due if t < 20000]))
        self.assertEqual(next_time(c, 20000), min(t for t in due if t >= 20000))
        self.assertIs(has_time(c, 20000), 20000 in due)

    def test_sixty_and_sixty(self):
        early = tuple(range(0, 240, 4))
        rests = tuple(range(0, 180, 3))
        plain = (early, 1001, 4999, rests)
        made = calendar_of(plain)
        self.assertEqual(plain_calendar(made), plain_by_words(early, 1001, 4999, rests))
        self.assertEqual(times_in(made, 0, 1000), early)
        self.assertEqual(next_time(made, 300), 1001)
        self.assertEqual(next_time(made, 1002), 1004)
        self.assertEqual(has_time(made, 1001 + 4999), True)
        self.assertIs(is_calendar(made), False)
        self.assertIs(is_endless(made), True)
        self.assertEqual(first_unlike(made, ("both", made, ("list", (19999,)))), None if has_time(made, 19999) else 19999)


def plain_by_words(early, n, q, rests):
    """The plain form of the calendar with these early times, then with these rests of q each time."""
    has = [t in early for t in range(n)] + [(t - n) % q in rests for t in range(n, n + 2 * q)]
    while n > 0 and has[n - 1] == has[n - 1 + q]:
        n -= 1
    return (tuple(t for t in range(n) if has[t]), n, q, tuple(t for t in range(q) if has[n + t]))


if __name__ == "__main__":
    unittest.main()
