"""[6.4] to [6.6]: series, the names of the jobs they make, and the books of them."""

import itertools
import random
import unittest

from effectonce.days import calendar_of, times_in
from effectonce.errors import BadBook, NameTwice, TooMany
from effectonce.meaning import outcomes
from effectonce.series import made_book, made_jobs, made_name, made_number, makes
from effectonce.webs import judge_book
from tests.plan_oracles import random_calendar, times_of
from tests.samples import book, job

ALWAYS, NEVER = ("every", 1, 0, None), ("list", ())
LAST = ("last",)
ADDS = ("plus", LAST, ("value", 1))


def parts(command=("value", 1), needs=(), mode="all", uses=(), length=2, tries=3, urgency=4):
    return (mode, needs, command, uses, length, tries, urgency)


def letters(number):
    return "".join(list(itertools.islice(itertools.product("abcdefghijklmnopqrstuvwxyz", repeat=3), number, number + 1))[0])


class Names(unittest.TestCase):
    def test_there_and_back(self):
        for number, due in ((0, "aaa"), (1, "aab"), (25, "aaz"), (26, "aba"), (27, "abb"), (675, "azz"), (676, "baa"), (702, "bba"),
                            (17574, "zzy"), (17575, "zzz")):
            for stem in ("a", "day", "zzzzz", "aaaaa"):
                self.assertEqual(made_name(stem, number), stem + due)
                self.assertEqual(made_number(stem, stem + due), number)
            self.assertEqual(letters(number), due)

    def test_all_names_ascend_and_come_back(self):
        names = [made_name("x", number) for number in range(17576)]
        self.assertEqual(names, sorted(set(names)))
        self.assertEqual([made_number("x", name) for name in names], list(range(17576)))

    def test_too_many(self):
        for number in (17576, 17577, 10 ** 9):
            with self.assertRaises(TooMany):
                made_name("day", number)

    def test_no_name_of_the_stem(self):
        for stem, name in (("day", "day"), ("day", "daya"), ("day", "dayaa"), ("day", "dayaaaa"), ("day", "dasaaa"), ("day", ""),
                           ("day", "aaa"), ("day", "aaaday"), ("day", "Dayaaa"), ("day", "dayaaA"), ("day", "dayaa1"), ("day", "dayaa "),
                           ("day", "day aa"), ("a", "baaa"), ("ab", "abaaaa"), ("abc", "abaaa"), ("day", "day\naa"), ("day", "daya-a")):
            self.assertIsNone(made_number(stem, name), name)
        self.assertEqual(made_number("aa", "aaaaa"), 0)
        self.assertEqual(made_number("a", "aaab"), 1)


class JobsMade(unittest.TestCase):
    def test_not_chained(self):
        told = parts(("plus", LAST, ("result", "b")), ("b",), "ended", (("pen", 2),), 5, 2, -7)
        due = ("ended", ("b",), ("plus", ("value", None), ("result", "b")), (("pen", 2),), 5, 2)
        self.assertEqual(made_jobs(("x", ("list", (4, 9)), 0, told), 0, 100), (("xaaa",) + due + (4, -7), ("xaab",) + due + (9, -7)))

    def test_chained(self):
        made = made_jobs(("x", ("list", (4, 9, 30)), 1, parts(ADDS)), 0, 100)
        self.assertEqual(made, (
            ("xaaa", "all", (), ("plus", ("value", None), ("value", 1)), (), 2, 3, 4, 4),
            ("xaab", "all", ("xaaa",), ("plus", ("result", "xaaa"), ("value", 1)), (), 2, 3, 9, 4),
            ("xaac", "all", ("xaab",), ("plus", ("result", "xaab"), ("value", 1)), (), 2, 3, 30, 4)))

    def test_needs_ascend(self):
        series = ("m", ("list", (1, 2)), 1, parts(ADDS, ("a", "maa", "mb", "z")))
        made = made_jobs(series, 0, 9)
        self.assertEqual([each[2] for each in made], [("a", "maa", "mb", "z"), ("a", "maa", "maaa", "mb", "z")])
        for needs in (("a", "b"), ("x", "z"), ("maaaa",), ("m",)):
            made = made_jobs(("m", ALWAYS, 1, parts(ADDS, needs)), 5, 6)
            self.assertEqual(made[0][2], tuple(sorted(needs + ("maae",))))

    def test_last_in_many_places_deep_within(self):
        deep = LAST
        for _ in range(12):
            deep = ("if", ("not", deep), ("value", 0), ("attempt",))
        command = ("demand", ("is", LAST, deep), ("joined", ("value", "last"), LAST))

        def replaced(part, other):
            if part == LAST:
                return other
            return tuple(replaced(each, other) if isinstance(each, tuple) else each for each in part)

        for chained in (0, 1):
            made = made_jobs(("x", ALWAYS, chained, parts(command)), 0, 3)
            for number in range(3):
                other = ("result", made_name("x", number - 1)) if chained and number else ("value", None)
                self.assertEqual(made[number][3], replaced(command, other))

    def test_numbers_count_all_times_from_0_on(self):
        series = ("x", ("every", 7, 3, None), 1, parts(ADDS))
        for low, high in ((0, 50), (4, 50), (17, 18), (700, 3600), (19000, 20000), (3, 3), (9, 2), (11, 17)):
            times = [t for t in range(low, high) if t >= 3 and (t - 3) % 7 == 0]
            made = made_jobs(series, low, high)
            self.assertEqual([each[7] for each in made], times)
            self.assertEqual([each[0] for each in made], [made_name("x", (t - 3) // 7) for t in times])
            self.assertEqual([each[2] for each in made], [(made_name("x", (t - 3) // 7 - 1),) if t > 3 else () for t in times])

    def test_too_many(self):
        series = ("x", ALWAYS, 1, parts(ADDS))
        self.assertEqual(made_jobs(series, 17575, 17576)[0][0], "xzzz")
        self.assertEqual(made_jobs(series, 17580, 17580), ())
        for low, high in ((17576, 17577), (17575, 17577), (17000, 19000), (19999, 20000)):
            with self.assertRaises(TooMany):
                made_jobs(series, low, high)
            with self.assertRaises(TooMany):
                made_jobs(("x", ALWAYS, 0, parts()), low, high)

    def test_cuts_of_a_stretch(self):
        chance = random.Random(91)
        for _ in range(150):
            series = ("abcde"[:chance.randint(1, 5)], random_calendar(chance, 2), chance.randrange(2), parts(ADDS, ("k",)))
            low, high = sorted([chance.choice((0, 5, 17000)) + chance.randint(0, 100) for _ in range(2)])
            try:
                whole = made_jobs(series, low, high)
            except TooMany:
                continue
            cuts = sorted([low, high] + [chance.randint(low, high) for _ in range(chance.randint(0, 6))])
            pieces = [made_jobs(series, cuts[k - 1], cuts[k]) for k in range(1, len(cuts))]
            self.assertEqual(sum(pieces, ()), whole)
            self.assertEqual([each[7] for each in whole], list(times_in(series[1], low, high)))


class BooksMade(unittest.TestCase):
    DAILY = ("day", ("every", 10, 0, None), 1, parts(ADDS, ("k",), uses=(("pen", 1),)))

    def test_with_other_jobs(self):
        jobs = (job("z", ("dayaab",)), job("k"))
        made = made_book((("pen", 1),), jobs, [self.DAILY, ("b", ("list", (5,)), 0, parts())], 21)
        self.assertIsNone(judge_book(made))
        self.assertEqual(made[0], (("pen", 1),))
        self.assertEqual(made[1], tuple(sorted(jobs + made_jobs(self.DAILY, 0, 21) + (("baaa",) + job("x")[1:5] + (2, 3, 5, 4),))))
        self.assertEqual([each[0] for each in made[1]], ["baaa", "dayaaa", "dayaab", "dayaac", "k", "z"])

    def test_it_means_what_it_says(self):
        counted = ("n", ("every", 3, 1, 10), 1, parts(("if", ("is", LAST, ("value", None)), ("value", 1), ("times", LAST, ("value", 2)))))
        self.assertEqual(outcomes(made_book((), (), (counted,), 1000)),
                         tuple((made_name("n", k), ("done", 1, 2 ** k)) for k in range(4)))

    def test_below_high(self):
        for high, many in ((0, 0), (1, 1), (10, 1), (11, 2), (1000, 40)):
            series = ("x", ("every", 10, 0, 390), 0, parts())
            self.assertEqual(len(made_book((), (), [series], high)[1]), many)
        self.assertEqual(made_book((), (), [], 50), ((), ()))
        self.assertEqual(made_book((), (job("b"), job("a")), (), 0), book(job("a"), job("b")))

    def assert_raises(self, error, due, *call):
        with self.assertRaises(error) as caught:
            made_book(*call)
        self.assertEqual(vars(caught.exception), due)

    def test_name_twice(self):
        series = ("x", ALWAYS, 0, parts())
        self.assert_raises(NameTwice, {"name": "xaab"}, (), (job("xaae"), job("xaab"), job("a")), [series], 9)
        self.assert_raises(NameTwice, {"name": "xaaa"}, (), (), [series, series], 9)
        self.assert_raises(NameTwice, {"name": "a"}, (), (job("b"), job("a"), job("b"), job("a")), [series], 9)
        self.assert_raises(NameTwice, {"name": "xaaa"}, (), (), [("x", ("list", (7, 8)), 0, parts()), ("q", ALWAYS, 0, parts()),
                                                                 ("x", ("list", (6,)), 1, parts())], 8)
        self.assertEqual(len(made_book((), (), [("x", ("list", (8,)), 0, parts()), ("x", ALWAYS, 0, parts())], 8)[1]), 8)
        self.assertEqual(len(made_book((), (job("xaad"),), [series], 3)[1]), 4)

    def test_name_twice_goes_ahead_of_bad_book(self):
        bad = job("xaab", ("none",))
        self.assert_raises(NameTwice, {"name": "xaab"}, (), (bad,), [("x", ALWAYS, 0, parts())], 2)
        self.assert_raises(NameTwice, {"name": "c"}, (("b", 1), ("a", 1)), (job("c"), job("c")), [], 2)

    def test_bad_book(self):
        self.assert_raises(BadBook, {"number": 1, "word": "thing"}, (("b", 1), ("a", 1)), (), [], 2)
        self.assert_raises(BadBook, {"number": 1, "word": "needs"}, (), (job("a"), job("b", ("c",))), [], 2)
        self.assert_raises(BadBook, {"number": 0, "word": "needs"}, (), (), [self.DAILY], 2)
        self.assert_raises(BadBook, {"number": 0, "word": "units"}, (), (job("k"),), [self.DAILY], 2)
        self.assert_raises(BadBook, {"number": 2, "word": "units"}, (("pen", 1),),
                           (job("k"),), [("a", ("list", (1, 2)), 0, parts()), ("d", ALWAYS, 0, parts(uses=(("pen", 2),)))], 3)
        self.assert_raises(BadBook, {"number": 0, "word": "ring"}, (("pen", 1),), (job("k", ("dayaaa",)),), [self.DAILY], 2)

    def test_times_beyond_1000(self):
        series = ("x", ("list", (0, 1000, 1001)), 0, parts())
        self.assertEqual(len(made_book((), (), [series], 1001)[1]), 2)
        self.assert_raises(BadBook, {"number": 0, "word": "form"}, (), (), [series], 1002)

    def test_too_many(self):
        self.assert_raises(TooMany, {}, (), (), [("x", ALWAYS, 0, parts())], 17577)


class Makes(unittest.TestCase):
    def test_the_least_place(self):
        some = [("a", ("list", (3, 5)), 0, parts()), ("b", ALWAYS, 0, parts()), ("a", ("every", 9, 0, 100), 1, parts()),
                ("a", ALWAYS, 1, parts()), ("ab", ("common", ("every", 2, 0, None), ("every", 2, 1, None)), 0, parts()), ("ab", ALWAYS, 0, parts())]
        for name, due in (("aaaa", (0, 0)), ("aaab", (0, 1)), ("aaac", (2, 2)), ("aaal", (2, 11)), ("aaam", (3, 12)), ("azzz", (3, 17575)),
                          ("baaa", (1, 0)), ("bzzz", (1, 17575)), ("abaaa", (5, 0)), ("caaa", None), ("a", None), ("aaa", None),
                          ("aaaaaaa", None), ("", None), ("aaaA", None)):
            self.assertEqual(makes(some, name), due, name)
            self.assertEqual(makes(tuple(some), name), due, name)
        self.assertIsNone(makes([], "aaaa"))

    def test_numbers_at_whatever_time(self):
        rare = ("every", 60, 1000, None)
        self.assertEqual(makes([("x", rare, 0, parts())], "xzzz"), (0, 17575))
        self.assertIsNone(makes([("x", ("every", 60, 1000, 10000), 0, parts())], made_name("x", 151)))
        self.assertEqual(makes([("x", ("every", 60, 1000, 10000), 0, parts())], made_name("x", 150)), (0, 150))

    def test_just_what_is_made(self):
        chance = random.Random(92)
        for _ in range(200):
            some = [(chance.choice(("a", "ab")), random_calendar(chance, 1), 0, parts()) for _ in range(chance.randint(1, 4))]
            for stem, number in itertools.product(("a", "ab"), (0, 1, 2, 3, 5, 9, 14)):
                name = made_name(stem, number)
                places = [k for k, series in enumerate(some) if series[0] == stem and len(times_of(series[1], 400)) > number]
                self.assertEqual(makes(some, name), (places[0], number) if places else None)


class Bounds(unittest.TestCase):
    """[6.6]"""

    def test_five_hundred_jobs(self):
        series = ("x", ("every", 1, 0, None), 1, parts(ADDS))
        made = made_jobs(series, 9000, 12000)
        self.assertEqual((len(made), made[0][0], made[-1][0]), (3000, made_name("x", 9000), made_name("x", 11999)))
        rare = ("x", ("common", ("every", 53, 5, None), ("every", 47, 3, None)), 1, parts(ADDS))
        self.assertEqual([each[7] for each in made_jobs(rare, 17000, 20000)],
                         [t for t in range(17000, 20000) if t % 53 == 5 and t % 47 == 3])

    def test_series_over_plain_forms(self):
        plain = (tuple(range(60)), 77, 100, tuple(range(0, 100, 2)))
        made = calendar_of(plain)
        series = ("x", made, 0, parts())
        self.assertEqual(len(made_jobs(series, 0, 177)), 110)
        self.assertEqual(makes([series], "xzzz"), (0, 17575))

    def test_forty_jobs(self):
        series = ("x", ("every", 25, 0, None), 1, parts(ADDS))
        made = made_book((), (), [series], 1000)
        self.assertEqual(outcomes(made)[39], (made_name("x", 39), ("done", 1, None)))


if __name__ == "__main__":
    unittest.main()
