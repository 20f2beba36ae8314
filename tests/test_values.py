"""[1.1]: values, names, their order, kept_text, is_true."""

import string
import unittest

from effectonce.values import is_name, is_true, is_value, kept_text, rank
from tests.samples import ODD_VALUES

SIGNS = string.ascii_letters + string.digits + " -_"
PRINTED = "".join(chr(k) for k in range(32, 127)) + "\t\n"


class Values(unittest.TestCase):
    def test_what_is_one(self):
        for value in (None, 0, 1, -1, 10 ** 59, -(10 ** 60) + 1, "", " ", "-", "_", "A", "z", "0", "a" * 24, SIGNS[:24],
                      SIGNS[24:48], SIGNS[-24:]):
            self.assertIs(is_value(value), True, value)

    def test_what_is_none(self):
        for value in (True, False, "a" * 25, "a" * 200, "a.b", "a\nb", "\t", "a+", "(", "~", [], (), {}, ("a",), ["a"],
                      (1,), [None], {"a": 1}, {1}, 1.0, b"a", "\u00e9", "\u0660"):
            self.assertIs(is_value(value), False, value)

    def test_each_sign(self):
        for sign in PRINTED:
            self.assertIs(is_value(sign), sign in SIGNS, sign)
            self.assertIs(is_value("ab" + sign), sign in SIGNS, sign)

    def test_any_value_gets_an_answer(self):
        for value in ODD_VALUES:
            self.assertIn(is_value(value), (True, False))
            self.assertIn(is_name(value), (True, False))


class Names(unittest.TestCase):
    def test_what_is_one(self):
        for value in ("a", "z", "ab", "abcdefg", "abcdefgh", "zzzzzzzz"):
            self.assertIs(is_name(value), True, value)

    def test_what_is_none(self):
        for value in ("", "abcdefghi", "a" * 24, "aB", "A", "a1", "1", "a ", " a", "a-b", "a_b", "a\n", None, True,
                      False, 1, ("a",), ["a"], {"a": "a"}, (), [], b"a", "\u00e9"):
            self.assertIs(is_name(value), False, value)

    def test_each_sign(self):
        for sign in PRINTED:
            self.assertIs(is_name(sign), sign in string.ascii_lowercase, sign)


class Order(unittest.TestCase):
    ASCENDING = (None, -10 ** 40, -7, -1, 0, 1, 2, 10, 10 ** 40, "", " ", "-", "0", "A", "Z", "_", "a", "aa", "b",
                 "z" * 24)

    def test_rank_orders_all(self):
        for one, low in enumerate(self.ASCENDING):
            self.assertIsInstance(rank(low), tuple)
            for other, high in enumerate(self.ASCENDING):
                self.assertEqual(rank(low) < rank(high), one < other)
                self.assertEqual(rank(low) == rank(high), one == other)

    def test_sorted_by_rank(self):
        self.assertEqual(tuple(sorted(self.ASCENDING[::-1], key=rank)), self.ASCENDING)


class TextsAndTruth(unittest.TestCase):
    def test_kept_text(self):
        for many in (0, 1, 23, 24):
            self.assertEqual(kept_text(SIGNS[:many]), SIGNS[:many])
        for many in (25, 26, 48, 65):
            self.assertEqual(kept_text(SIGNS[:many]), SIGNS[:24])
        self.assertEqual(kept_text("ab" * 50), "ab" * 12)

    def test_is_true(self):
        for value in (1, -1, 2, 10 ** 50, -(10 ** 50)):
            self.assertIs(is_true(value), True)
        for value in (0, None, "", "a", "1", " "):
            self.assertIs(is_true(value), False)


if __name__ == "__main__":
    unittest.main()
