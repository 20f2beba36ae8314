"""[0.2], errors: what they are, and that they keep copies."""

import unittest

from effectonce.errors import (BadBook, BadDisk, BadScript, BadText, JobError, NameTwice, NothingDone, TooMany)
from tests.samples import ODD_VALUES, nested

ONE_PART = ((BadText, "place"), (BadScript, "number"), (BadDisk, "place"), (NameTwice, "name"))


def holds_none_of(kept, passed):
    """Whether no list and no dict of one stands in the other."""
    def collect(value, into):
        if isinstance(value, (list, dict)):
            into.add(id(value))
        if isinstance(value, dict):
            value = list(value.values())
        if isinstance(value, (list, tuple)):
            for member in value:
                collect(member, into)
        return into

    marks = collect(kept, set())
    return not marks & collect(passed, set())


class Kinds(unittest.TestCase):
    def test_job_error_is_a_value_error(self):
        self.assertEqual(JobError.__bases__, (ValueError,))

    def test_all_stand_directly_beneath_it(self):
        for kind in (BadText, BadBook, BadScript, BadDisk, NothingDone, TooMany, NameTwice):
            self.assertEqual(kind.__bases__, (JobError,))

    def test_those_that_tell_nothing(self):
        for kind in (NothingDone, TooMany):
            with self.assertRaises(JobError):
                raise kind()


class WhatIsTold(unittest.TestCase):
    def test_plain_parts(self):
        for kind, part in ONE_PART:
            self.assertEqual(getattr(kind(7), part), 7)
        error = BadBook(3, "ring")
        self.assertEqual((error.number, error.word), (3, "ring"))

    def test_any_value(self):
        for value in ODD_VALUES:
            for kind, part in ONE_PART:
                kept = getattr(kind(value), part)
                self.assertEqual(repr(kept), repr(value))
                self.assertTrue(holds_none_of(kept, value), value)
            for kept in (BadBook(value, "x").number, BadBook(0, value).word):
                self.assertEqual(repr(kept), repr(value))
                self.assertTrue(holds_none_of(kept, value), value)

    def test_a_later_change_does_not_reach_them(self):
        passed = [1, (2, [3, {"a": [4]}], ()), {"b": (5, [6])}]
        told = [1, (2, [3, {"a": [4]}], ()), {"b": (5, [6])}]
        errors = [kind(passed) for kind, _ in ONE_PART] + [BadBook(passed, passed)]
        passed[1][1][1]["a"].append(9)
        passed[1][1].append(9)
        passed[2]["b"][1].clear()
        passed[2]["c"] = 9
        passed.append(9)
        for error in errors[:-1]:
            self.assertEqual(list(vars(error).values()), [told])
        self.assertEqual((errors[-1].number, errors[-1].word), (told, told))

    def test_both_parts_are_copies_of_their_own(self):
        part = [1]
        error = BadBook(part, part)
        error.number.append(2)
        self.assertEqual(error.word, [1])
        self.assertEqual(part, [1])

    def test_dicts_keep_their_sequence_and_keys(self):
        passed = {("b", (1,)): [1], "a": {}, 2: None}
        kept = BadText(passed).place
        self.assertEqual(list(kept.items()), list(passed.items()))

    def test_however_deep(self):
        passed = nested(3000, {"a": [1]})
        kept, steps = BadText(passed).place, 0
        while kept != {"a": [1]} if isinstance(kept, dict) else True:
            self.assertIsNot(kept, passed)
            kept, passed, steps = kept[0], passed[0], steps + 1
        self.assertEqual(steps, 3000)


if __name__ == "__main__":
    unittest.main()
