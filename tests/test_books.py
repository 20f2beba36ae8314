"""[2.1]: the forms of jobs and books at their bounds, and what is looked up in a book."""

import random
import unittest

from effectonce.books import is_book, is_job, job_of, names_of_jobs, units_of
from tests.samples import ODD_VALUES, WEB, job, random_book

GOOD = ("a", "all", ("b", "c"), ("plus", ("result", "b"), ("value", 1)), (("cpu", 1), ("pen", 2)), 2, 3, 4, 5)
FIELDS = ("name", "mode", "needs", "command", "uses", "length", "tries", "start", "urgency")


def with_field(field, value):
    k = FIELDS.index(field)
    return GOOD[:k] + (value,) + GOOD[k + 1:]


def deep_command(many):
    command = ("attempt",)
    for _ in range(many - 1):
        command = ("not", command)
    return command


class Jobs(unittest.TestCase):
    def assert_field(self, field, good, bad):
        for value in good:
            self.assertIs(is_job(with_field(field, value)), True, (field, value))
        for value in bad:
            self.assertIs(is_job(with_field(field, value)), False, (field, value))

    def test_good(self):
        self.assertIs(is_job(GOOD), True)
        for each in WEB[1]:
            self.assertIs(is_job(each), True)

    def test_name_and_mode(self):
        self.assert_field("name", ["a", "z", "abcdefgh"], ["", "abcdefghi", "A", "a1", "a b", None, 1, ("a",), True])
        self.assert_field("mode", ["all", "ended"], ["", "any", "All", "end", None, 0, True, ("all",), ["all"]])

    def test_needs(self):
        self.assert_field("needs", [(), ("b",), ("b", "a"), ("b", "b"), ("a",), tuple("abcdefghijklmnop")],
                          [["b"], [], "b", "", None, ("",), ("B",), ("b", 1), ("b", ("c",)), (None,), ("abcdefghi",),
                           {"b": 1}, (True,), (["b"],)])

    def test_command(self):
        self.assert_field("command", [("attempt",), ("result", "zz"), deep_command(40)],
                          [deep_command(41), deep_command(200), ["attempt"], None, 1, (), ("attempt", 1), "attempt"])

    def test_uses(self):
        self.assert_field("uses", [(), (("cpu", 1),), (("cpu", 10 ** 59),), (("b", 1), ("a", 1)), (("b", 1), ("b", 2))],
                          [[("cpu", 1)], [], "", None, (("cpu", 0),), (("cpu", -1),), (("cpu", True),), (("cpu", "1"),),
                           (("cpu", None),), (["cpu", 1],), (("cpu",),), (("cpu", 1, 1),), (("Cpu", 1),), ("cpu", 1),
                           ((1, "cpu"),), (("cpu", 1), ()), ((),), {"cpu": 1}])

    def test_numbers(self):
        for field, low, high in (("length", 1, 20), ("tries", 1, 5), ("start", 0, 1000), ("urgency", -100, 100)):
            self.assert_field(field, [low, low + 1, high - 1, high],
                              [low - 1, high + 1, -10 ** 59, 10 ** 59, True, False, None, str(low), (low,), [low], {}])

    def test_number_of_parts(self):
        for value in (GOOD[:8], GOOD + (0,), GOOD[1:], (), list(GOOD), GOOD[:5] + GOOD[6:], dict(zip(FIELDS, GOOD))):
            self.assertIs(is_job(value), False, value)

    def test_odd_values_everywhere(self):
        for value in ODD_VALUES:
            self.assertIs(is_job(value), False, value)
            for field in ("name", "mode", "command", "length", "tries"):
                good = (field == "name" and value in ("a", "abc", "job") or
                        field in ("length", "tries") and value in (1, 5) and value is not True)
                self.assertIs(is_job(with_field(field, value)), good, (field, value))


class Books(unittest.TestCase):
    def test_good(self):
        for value in (((), ()), (((("a", 0)),), ()), ((("b", 1), ("a", 0), ("a", 10 ** 50)), ()), ((), (GOOD, GOOD)),
                      ((), WEB[1][::-1]), WEB):
            self.assertIs(is_book(value), True, value)

    def test_near_ones(self):
        for value in ((), ((),), ((), (), ()), [(), ()], ([], ()), ((), []), (None, ()), ((), None), ("", ""),
                      ((("a", -1),), ()), ((("a", True),), ()), ((("a", None),), ()), ((("a", "1"),), ()),
                      ((("A", 1),), ()), ((("", 1),), ()), ((("a", 1, 1),), ()), ((("a",),), ()), ((["a", 1],), ()),
                      (("a", 1), ()), ((), (GOOD[:8],)), ((), (GOOD, None)), ((), (None, GOOD)), ((), [GOOD]),
                      ((), (list(GOOD),)), ((), GOOD), GOOD, ({"a": 1}, ()), (WEB[1], WEB[0]), list(WEB)):
            self.assertIs(is_book(value), False, value)

    def test_odd_values(self):
        for value in ODD_VALUES:
            self.assertIs(is_book(value), value == ((), ()) or value == ((("a", 1),), ()), value)
            self.assertIs(is_book((value, ())), value == () or value == (("a", 1),), value)
            self.assertIs(is_book(((), value)), value == (), value)

    def test_by_chance(self):
        chance = random.Random(5)
        for many in (0, 1, 5, 40):
            self.assertIs(is_book(random_book(chance, many)), True)


class LookedUp(unittest.TestCase):
    TWICE = ((("cpu", 2), ("pen", 0), ("cpu", 7)), (job("b", start=1), job("a"), job("b", start=2)))

    def test_names_of_jobs(self):
        self.assertEqual(names_of_jobs(((), ())), ())
        self.assertEqual(names_of_jobs(WEB), ("a", "b", "c", "d", "e", "f"))
        self.assertEqual(names_of_jobs(self.TWICE), ("b", "a", "b"))

    def test_job_of(self):
        for each in WEB[1]:
            self.assertEqual(job_of(WEB, each[0]), each)
        self.assertEqual(job_of(self.TWICE, "b"), job("b", start=1))
        self.assertEqual(job_of(self.TWICE, "a"), job("a"))
        for book, name in ((WEB, "g"), (WEB, "cpu"), (((), ()), "a"), (self.TWICE, "cpu")):
            self.assertIsNone(job_of(book, name))

    def test_units_of(self):
        self.assertEqual(units_of(self.TWICE, "cpu"), 2)
        self.assertEqual(units_of(self.TWICE, "pen"), 0)
        for book, thing in ((WEB, "disk"), (WEB, "a"), (((), ()), "cpu")):
            self.assertIsNone(units_of(book, thing))


if __name__ == "__main__":
    unittest.main()
