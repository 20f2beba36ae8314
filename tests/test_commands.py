"""[1.2] to [1.6]: commands, attempts, outcomes, folding."""

import itertools
import random
import unittest

from effectonce.commands import attempt_worth, folded, is_command, names_in, outcome_of, size_of, worked_out
from tests.oracles import folded_by_chance, foldings, naive_worth, parts
from tests.samples import NAMES, ODD_VALUES, TWO_PARTS, VALUES, random_command

ONE, TWO, NONE, TEXT = ("value", 1), ("value", 2), ("value", None), ("value", "ab")
NOUGHT, ATTEMPT, RESULT = ("value", 0), ("attempt",), ("result", "a")
FAILING = ("demand", NOUGHT, ONE)


def nested_not(deep, command):
    """A command with so many parts."""
    for _ in range(deep - 1):
        command = ("not", command)
    return command


def wide(many):
    """A command of so many parts, an odd number, as flat as can be."""
    row = [ONE] * ((many + 1) // 2)
    while len(row) > 1:
        row = [("plus", row[k], row[k + 1]) if k + 1 < len(row) else row[k] for k in range(0, len(row), 2)]
    return row[0]


class Forms(unittest.TestCase):
    def test_each_form(self):
        commands = [("value", value) for value in VALUES] + [("result", name) for name in NAMES] + [ATTEMPT]
        commands += [(word, ONE, RESULT) for word in TWO_PARTS] + [("not", ATTEMPT), ("if", ONE, RESULT, ATTEMPT)]
        for command in commands:
            self.assertIs(is_command(command), True, command)

    def test_near_ones(self):
        near = [(), ("value",), ("value", 1, 2), ["value", 1], ("value", True), ("value", "a" * 25), ("value", (1,)),
                ("value", ONE), ("result",), ("result", "a", "b"), ["result", "a"], ("result", "A"), ("result", ""),
                ("result", "abcdefghi"), ("result", 1), ("result", None), ("result", RESULT), ("attempt", 1),
                ["attempt"], ("attempts",), ("Attempt",), "attempt", ("last",), ("none",), ("",), (None,), (1, ONE),
                (True,), (["plus"], ONE, ONE), (("plus",), ONE, ONE), ({}, ONE), ("not",), ("not", ONE, ONE),
                ["not", ONE], ("not", 1), ("not", ["value", 1]), ("if", ONE, ONE), ("if", ONE, ONE, ONE, ONE),
                ["if", ONE, ONE, ONE], ("if", ONE, ONE, None), ("if", None, ONE, ONE), 1, None, True, "value"]
        for word in TWO_PARTS:
            near += [(word, ONE), (word,), (word, ONE, ONE, ONE), [word, ONE, ONE], (word, ONE, 1), (word, "a", ONE),
                     (word, ONE, ["value", 1]), (word, ONE, ("value", True)), (word.upper(), ONE, ONE)]
        for command in near:
            self.assertIs(is_command(command), False, command)
            self.assertIs(is_command(("plus", ONE, command)), False, command)
            self.assertIs(is_command(("not", ("if", ONE, command, ONE))), False, command)

    def test_any_value(self):
        for value in ODD_VALUES:
            self.assertIs(is_command(value), False, value)
            self.assertIs(is_command((value, ONE)), False)
            self.assertIs(is_command(("not", value)), False)

    def test_forty_parts(self):
        for command, many in ((nested_not(40, ONE), 40), (wide(39), 39), (("not", wide(39)), 40)):
            self.assertEqual(size_of(command), many)
            self.assertIs(is_command(command), True)
        for command, many in ((nested_not(41, ONE), 41), (wide(41), 41), (("and", wide(39), ONE), 41),
                              (nested_not(200, ONE), 200), (wide(1999), 1999)):
            self.assertEqual(size_of(command), many)
            self.assertIs(is_command(command), False)

    def test_more_parts_than_could_be_counted(self):
        command = ONE
        for _ in range(199):
            command = ("plus", command, command)
        self.assertIs(is_command(command), False)
        odd = "a"
        for _ in range(14):
            odd = ("if", odd, odd, odd)
        self.assertIs(is_command(odd), False)


class NamesAndSize(unittest.TestCase):
    def test_names_in(self):
        self.assertEqual(names_in(ONE), ())
        self.assertEqual(names_in(("value", "a")), ())
        self.assertEqual(names_in(("result", "b")), ("b",))
        self.assertEqual(names_in(("if", ("result", "c"), ("not", ("result", "a")), ("result", "c"))), ("a", "c"))
        self.assertEqual(names_in(("demand", NOUGHT, ("plus", ("result", "zz"), ("result", "ab")))), ("ab", "zz"))

    def test_size_of(self):
        self.assertEqual([size_of(each) for each in (ONE, RESULT, ATTEMPT, ("not", ONE), ("if", ONE, ONE, ONE))],
                         [1, 1, 1, 2, 4])

    def test_both_by_chance(self):
        chance = random.Random(1)
        for _ in range(300):
            command = random_command(chance, NAMES, 4)
            self.assertEqual(size_of(command), len(parts(command)))
            names = {part[1] for part in parts(command) if part[0] == "result"}
            self.assertEqual(names_in(command), tuple(sorted(names)))


class Worths(unittest.TestCase):
    def worth(self, command, results=(), attempt=1):
        return attempt_worth(command, results, attempt)

    def assert_worths(self, word, rows):
        for one, other, due in rows:
            worth = self.worth((word, ("value", one), ("value", other)))
            self.assertEqual(worth, ("done", due), (word, one, other))
            self.assertIsNot(worth[1], True)
            self.assertIsNot(worth[1], False)

    def test_leaves(self):
        for value in VALUES:
            self.assertEqual(self.worth(("value", value)), ("done", value))
            self.assertEqual(self.worth(RESULT, (("b", 5), ("a", value))), ("done", value))
        self.assertEqual(self.worth(RESULT, (("b", 5), ("aa", 6))), ("done", None))
        self.assertEqual(self.worth(RESULT), ("done", None))
        for attempt in (1, 2, 100):
            self.assertEqual(self.worth(ATTEMPT, (), attempt), ("done", attempt))

    def test_numbers(self):
        self.assert_worths("plus", [(2, 3, 5), (-2, 2, 0), (10 ** 50, 1, 10 ** 50 + 1)])
        self.assert_worths("less", [(2, 3, -1), (3, 2, 1), (0, -7, 7)])
        self.assert_worths("times", [(2, 3, 6), (-2, 3, -6), (0, 5, 0), (10 ** 30, 10 ** 30, 10 ** 60)])
        unlike = [(one, other, None) for one, other in itertools.product((1, None, "a", "1", ""), repeat=2)
                  if (one, other) != (1, 1)]
        for word in ("plus", "less", "times"):
            self.assert_worths(word, unlike)

    def test_joined(self):
        self.assert_worths("joined", [("ab", "cd", "abcd"), ("", "", ""), ("a", "", "a"), ("", "b", "b"),
                                      ("a" * 24, "b", "a" * 24), ("a" * 23, "bc", "a" * 23 + "b"),
                                      ("a" * 20, "b" * 24, "a" * 20 + "bbbb"), ("a", 1, None), (1, "a", None),
                                      (None, "a", None), ("a", None, None), (1, 2, None), (None, None, None)])

    def test_is_and_below(self):
        self.assert_worths("is", [(1, 1, 1), (1, 2, 0), (None, None, 1), ("", None, 0), (0, None, 0), ("1", 1, 0),
                                  ("a", "a", 1), ("a", "A", 0), (0, "", 0), (0, 0, 1)])
        ascending = (None, -2, 0, 1, 10, "", "1", "A", "a", "aa")
        rows = [(low, high, 1 if one < other else 0)
                for one, low in enumerate(ascending) for other, high in enumerate(ascending)]
        self.assert_worths("below", rows)

    def test_and_or_not(self):
        truths = ((1, 1), (-3, 1), (0, 0), (None, 0), ("a", 0), ("1", 0), ("", 0))
        for (one, a), (other, b) in itertools.product(truths, repeat=2):
            self.assert_worths("and", [(one, other, a * b)])
            self.assert_worths("or", [(one, other, max(a, b))])
        for value, truth in truths:
            self.assertEqual(self.worth(("not", ("value", value))), ("done", 1 - truth))

    def test_if_and_demand(self):
        for value, truth in ((1, True), (-1, True), (0, False), (None, False), ("a", False)):
            command = ("if", ("value", value), ("value", "f"), ("value", "g"))
            self.assertEqual(self.worth(command), ("done", "f" if truth else "g"))
            command = ("demand", ("value", value), ("value", "f"))
            self.assertEqual(self.worth(command), ("done", "f") if truth else ("failed",))

    def test_the_other_part_is_not_worked_out(self):
        self.assertEqual(self.worth(("if", ONE, TWO, FAILING)), ("done", 2))
        self.assertEqual(self.worth(("if", NOUGHT, FAILING, TWO)), ("done", 2))
        self.assertEqual(worked_out(("if", ONE, RESULT, ("result", "b")), (), 1)[1], ("a",))
        self.assertEqual(worked_out(("demand", NOUGHT, RESULT), (), 1), (("failed",), ()))
        self.assertEqual(worked_out(("demand", ("result", "b"), RESULT), (("b", 1),), 1)[1], ("b", "a"))

    def test_the_first_failure_ends_it(self):
        later = ("result", "z")
        for word in TWO_PARTS:
            self.assertEqual(self.worth((word, FAILING, ONE)), ("failed",), word)
            self.assertEqual(worked_out((word, FAILING, later), (), 1), (("failed",), ()), word)
            self.assertEqual(self.worth((word, ONE, FAILING)), ("failed",), word)
            self.assertEqual(worked_out((word, ("result", "b"), FAILING), (("b", 1),), 1)[1], ("b",), word)
        for command in (("not", FAILING), ("if", FAILING, ONE, ONE), ("if", ONE, FAILING, ONE),
                        ("if", NOUGHT, ONE, FAILING), ("demand", ONE, FAILING), ("and", NOUGHT, FAILING),
                        ("or", ONE, FAILING), ("times", NOUGHT, FAILING), ("plus", NONE, FAILING)):
            self.assertEqual(self.worth(command), ("failed",), command)

    def test_from_left_to_right(self):
        row = [("result", name) for name in "dacb"]
        command = ("if", ("plus", row[0], row[1]), row[3], ("not", ("joined", row[2], row[3])))
        self.assertEqual(worked_out(command, (), 1)[1], ("d", "a", "c", "b"))

    def test_by_chance(self):
        chance = random.Random(2)
        ends = {"done": 0, "failed": 0}
        for _ in range(4000):
            command = random_command(chance, NAMES, chance.randint(0, 6))
            results = tuple((name, chance.choice(VALUES)) for name in NAMES if chance.randrange(2))
            attempt, looked = chance.randint(1, 3), []
            due = naive_worth(command, results, attempt, looked)
            self.assertEqual(attempt_worth(command, results, attempt), due, command)
            self.assertEqual(worked_out(command, results, attempt), (due, tuple(looked)), command)
            ends[due[0]] += 1
        self.assertGreater(ends["failed"], 300)
        self.assertGreater(ends["done"], 300)


class Outcomes(unittest.TestCase):
    FROM_THIRD = ("demand", ("below", TWO, ATTEMPT), ("times", ATTEMPT, RESULT))

    def test_least_attempt_that_does_not_fail(self):
        for tries, due in ((1, ("failed", 1)), (2, ("failed", 2)), (3, ("done", 3, 12)), (100, ("done", 3, 12))):
            self.assertEqual(outcome_of(self.FROM_THIRD, (("a", 4),), tries), due)

    def test_no_or_all_fail(self):
        self.assertEqual(outcome_of(ATTEMPT, (), 5), ("done", 1, 1))
        self.assertEqual(outcome_of(NONE, (), 5), ("done", 1, None))
        for tries in (1, 2, 100):
            self.assertEqual(outcome_of(FAILING, (), tries), ("failed", tries))

    def test_by_chance(self):
        chance = random.Random(3)
        for _ in range(1000):
            command = ("demand", random_command(chance, NAMES, 3), random_command(chance, NAMES, 2))
            results = tuple((name, chance.choice(VALUES)) for name in NAMES)
            tries = chance.randint(1, 4)
            answers = [naive_worth(command, results, k) for k in range(1, tries + 1)]
            done = [("done", k + 1, answer[1]) for k, answer in enumerate(answers) if answer[0] == "done"]
            self.assertEqual(outcome_of(command, results, tries), (done + [("failed", tries)])[0])


class Folding(unittest.TestCase):
    def assert_folded(self, *rows):
        for command, due in rows:
            for around in (lambda e: e, lambda e: ("plus", ATTEMPT, e), lambda e: ("not", ("if", RESULT, e, ATTEMPT)),
                           lambda e: ("demand", NOUGHT, ("joined", e, RESULT))):
                self.assertEqual(folded(around(command)), around(due), command)

    def test_parts_that_hang_on_nothing(self):
        self.assert_folded(
            (ONE, ONE), (NONE, NONE), (TEXT, TEXT), (ATTEMPT, ATTEMPT), (RESULT, RESULT), (("plus", ONE, TWO), ("value", 3)),
            (("joined", TEXT, TEXT), ("value", "abab")), (("plus", ONE, TEXT), NONE), (("not", NONE), ONE),
            (("times", ("plus", ONE, TWO), ("less", ONE, TWO)), ("value", -3)),
            (("below", NONE, ONE), ONE), (("is", ONE, TWO), NOUGHT))

    def test_parts_that_hang_on_something(self):
        for leaf in (ATTEMPT, RESULT, FAILING):
            self.assert_folded(
                (("plus", leaf, ("plus", ONE, TWO)), ("plus", leaf, ("value", 3))),
                (("not", leaf), ("not", leaf)), (("and", NOUGHT, leaf), ("and", NOUGHT, leaf)),
                (("times", ("not", ONE), leaf), ("times", NOUGHT, leaf)),
                (("if", leaf, ("not", ONE), ("not", NOUGHT)), ("if", leaf, NOUGHT, ONE)))

    def test_if(self):
        for leaf in (ATTEMPT, RESULT, FAILING):
            self.assert_folded(
                (("if", ONE, leaf, TWO), leaf), (("if", NOUGHT, leaf, TWO), TWO), (("if", TEXT, TWO, leaf), leaf),
                (("if", NONE, leaf, ("plus", ONE, ONE)), TWO), (("if", ("not", NOUGHT), leaf, TWO), leaf),
                (("plus", ("if", ONE, TWO, leaf), ONE), ("value", 3)),
                (("if", ("if", NOUGHT, leaf, ONE), leaf, TWO), leaf))

    def test_demand(self):
        for leaf in (ATTEMPT, RESULT):
            self.assert_folded(
                (("demand", ONE, leaf), leaf), (("demand", NOUGHT, leaf), ("demand", NOUGHT, leaf)),
                (("demand", TEXT, ("not", ONE)), ("demand", TEXT, NOUGHT)),
                (("demand", leaf, ("not", ONE)), ("demand", leaf, NOUGHT)),
                (("demand", ("plus", ONE, ONE), ("plus", ONE, ONE)), TWO),
                (("plus", ("demand", ONE, TWO), ONE), ("value", 3)),
                (("demand", ("demand", ONE, TWO), leaf), leaf),
                (("demand", ("demand", NOUGHT, ONE), leaf), ("demand", FAILING, leaf)))

    def test_what_is_not_taken_is_not_worked_out(self):
        huge = ("value", 3)
        for _ in range(100):
            huge = ("times", huge, huge)
        self.assertEqual(folded(("if", NOUGHT, huge, ATTEMPT)), ATTEMPT)

    def test_by_chance(self):
        chance = random.Random(4)
        for _ in range(600):
            command = random_command(chance, ("a", "b"), chance.randint(0, 5))
            once = folded(command)
            self.assertEqual(once, folded_by_chance(command, chance), command)
            self.assertEqual(foldings(once), [])
            self.assertEqual(folded(once), once)
            for attempt in (1, 2):
                results = tuple((name, chance.choice(VALUES)) for name in "ab" if chance.randrange(3))
                self.assertEqual(attempt_worth(once, results, attempt), attempt_worth(command, results, attempt))


class Bounds(unittest.TestCase):
    """[1.6], and somewhat beyond."""

    def test_two_hundred_within_one_another(self):
        for deep in (200, 1000):
            for build in (lambda e: ("not", e), lambda e: ("plus", e, ATTEMPT), lambda e: ("plus", ATTEMPT, e),
                          lambda e: ("if", ONE, e, RESULT), lambda e: ("if", e, ONE, NOUGHT),
                          lambda e: ("demand", ATTEMPT, e)):
                command = RESULT
                for _ in range(deep - 1):
                    command = build(command)
                self.assertEqual(attempt_worth(command, (("a", 0),), 1)[0], "done")
                self.assertEqual(outcome_of(command, (("a", 0),), 100)[:2], ("done", 1))
                self.assertEqual(names_in(command), ("a",))
                self.assertGreaterEqual(size_of(command), deep)
                self.assertEqual(attempt_worth(folded(command), (), 1), attempt_worth(command, (), 1))
                self.assertIs(is_command(command), False)

    def test_two_thousand_parts(self):
        command = wide(1999)
        self.assertEqual(attempt_worth(command, (), 1), ("done", 1000))
        self.assertEqual(folded(command), ("value", 1000))
        self.assertEqual(names_in(command), ())
        self.assertEqual(size_of(("not", command)), 2000)
        command = ("if", ATTEMPT, command, RESULT)
        self.assertEqual(folded(command), ("if", ATTEMPT, ("value", 1000), RESULT))

    def test_many_digits(self):
        command = ("value", 10 ** 8)
        for _ in range(9):
            command = ("times", command, command)
        worth = attempt_worth(command, (), 1)
        self.assertEqual(worth, ("done", 10 ** 4096))
        self.assertEqual(folded(("plus", ATTEMPT, command)), ("plus", ATTEMPT, ("value", 10 ** 4096)))
        self.assertEqual(attempt_worth(("below", command, ("plus", command, ONE)), (), 1), ("done", 1))

    def test_forty_results_hundred_tries(self):
        results = tuple(("n" + chr(97 + k // 26) + chr(97 + k % 26), k) for k in range(40))
        command = ("demand", ("below", ("value", 99), ATTEMPT), ("result", "nbn"))
        self.assertEqual(outcome_of(command, results, 100), ("done", 100, 39))

    def test_lists_of_results_may_be_passed_and_stay(self):
        results = [("a", 3), ("b", 4)]
        self.assertEqual(attempt_worth(("plus", RESULT, ("result", "b")), results, 1), ("done", 7))
        self.assertEqual(results, [("a", 3), ("b", 4)])


if __name__ == "__main__":
    unittest.main()
