"""Part 13: the store judged, and why each job stands as it does."""

import random
import unittest

from effectonce.checker import (have_all_ended, judge_ends, judge_store, judge_why_now, ready_now, told_outcomes, waited_for, why_now)
from effectonce.meaning import outcomes
from effectonce.store import new_store, outcome_in, still_open, store_hears, ticked
from tests.checker_oracles import exchanged_store, naive_judge_store, naive_why
from tests.keeper_oracles import Run
from tests.samples import ODD_VALUES, book, job
from tests.world_samples import world_book

PEN = (("pen", 1),)
# a is done at its second attempt, b fails, c is barred by b, d goes on behind both.
BOOK = book(job("a", (), ("demand", ("below", ("value", 1), ("attempt",)), ("value", 6)), uses=PEN, tries=3),
            job("b", (), ("demand", ("value", 0), ("value", 1)), start=2), job("c", ("a", "b")), job("d", ("a", "b"), ("result", "a"), mode="ended", uses=PEN),
            job("e", (), ("value", "x"), uses=PEN), things=(("pen", 1), ("saw", 0)))
A_ENDS = (("failed", 1, 2, 0, 3, None), ("done", 3, 5, 2, 6, 6))
B_ENDS = (("failed", 4, 7, 2, 8, None),)
RIGHT = {"book": BOOK, "time": 5, "epoch": 1, "moment": 11, "fence": 6, "holds": {"d": (6, 0, 1, 11, 5)}, "ends": {"a": A_ENDS, "b": B_ENDS},
         "barred": {"c": "b"}, "freed": ((2, "a", 1, 2, 3, 0, 4), (5, "d", 0, 1, 9, 4, 10))}


def store_of(told, **fields):
    return dict(dict(new_store(told), moment=90, time=90, fence=90), **fields)


def done(fence, begun, ended, value=1, since=9):
    return ("done", fence, begun, since, ended, value)


def failed(fence, begun, ended, since=9):
    return ("failed", fence, begun, since, ended, None)


class Test(unittest.TestCase):
    def assert_fault(self, store, due):
        self.assertEqual(judge_store(store), due)
        self.assertEqual(naive_judge_store(store), due)


class Right(Test):
    def test_a_store_with_all_in_it(self):
        self.assert_fault(RIGHT, None)
        self.assertIsNone(judge_ends(RIGHT))
        self.assertEqual(told_outcomes(RIGHT), (("a", ("done", 2, 6)), ("b", ("failed", 1)), ("c", ("barred", "b"))))
        self.assertIs(have_all_ended(RIGHT), False)

    def test_a_new_store(self):
        self.assert_fault(new_store(BOOK), None)
        self.assertEqual((told_outcomes(new_store(BOOK)), have_all_ended(new_store(BOOK)), judge_ends(new_store(BOOK))), ((), False, None))
        self.assertIs(have_all_ended(new_store(book())), True)
        self.assert_fault(new_store(book()), None)

    def test_when_all_have_ended(self):
        store = dict(RIGHT, holds={}, ends=dict(RIGHT["ends"], d=(done(6, 11, 12, 6, 5),)), barred={"c": "b"})
        self.assertIs(have_all_ended(store), False)
        store = dict(store, fence=7, ends=dict(store["ends"], e=(done(7, 13, 14, "x", 5),)))
        self.assertIs(have_all_ended(store), True)
        self.assertEqual(told_outcomes(store), outcomes(BOOK))
        self.assert_fault(store, None)


class Fences(Test):
    """[13.1], [13.2] ("fence", f)"""

    TOLD = book(job("a", tries=3), job("b"), job("c"))

    def test_of_two_holds(self):
        for store in (store_of(self.TOLD, ends={"a": (done(4, 2, 3),), "b": (done(4, 5, 6),)}),
                      store_of(self.TOLD, ends={"a": (failed(4, 2, 3), failed(4, 5, 6))}),
                      store_of(self.TOLD, ends={"a": (done(4, 2, 3),)}, holds={"b": (4, 0, 1, 5, 9)}),
                      store_of(self.TOLD, holds={"a": (4, 0, 1, 5, 9), "b": (4, 1, 1, 6, 9)}),
                      store_of(self.TOLD, freed=((4, "a", 0, 1, 2, 9, 3),), ends={"b": (done(4, 5, 6),)}),
                      store_of(self.TOLD, freed=((4, "a", 0, 1, 2, 9, 3),), holds={"a": (4, 0, 1, 5, 9)}),
                      store_of(self.TOLD, freed=((4, "a", 0, 1, 2, 9, 3), (4, "b", 0, 1, 2, 9, 3)))):
            self.assert_fault(store, ("fence", 4))

    def test_below_one_or_above_the_stores(self):
        for fence in (0, -1, -10 ** 40, 91, 10 ** 40):
            self.assert_fault(store_of(self.TOLD, ends={"a": (done(fence, 2, 3),)}), ("fence", fence))
            self.assert_fault(store_of(self.TOLD, holds={"a": (fence, 0, 1, 2, 9)}), ("fence", fence))
            self.assert_fault(store_of(self.TOLD, freed=((fence, "a", 0, 1, 2, 9, 3),)), ("fence", fence))
        for fence in (1, 90):
            self.assert_fault(store_of(self.TOLD, ends={"a": (done(fence, 2, 3),)}), None)

    def test_the_least_one_and_ahead_of_all_else(self):
        ends = {"a": (done(7, 2, 3),), "b": (done(95, 5, 4, 9),), "c": (done(7, 6, 7),)}
        self.assert_fault(store_of(self.TOLD, ends=ends), ("fence", 7))
        self.assert_fault(store_of(self.TOLD, ends=ends, holds={"a": (0, 0, 5, 1, 1)}), ("fence", 0))
        self.assert_fault(store_of(self.TOLD, ends=dict(ends, a=(done(96, 2, 3),))), ("fence", 95))


class Twice(Test):
    TOLD = book(job("a", (), ("demand", ("below", ("value", 3), ("attempt",)), ("value", 1)), tries=4), job("b", mode="all"))

    def assert_twice(self, name="a", **fields):
        self.assert_fault(store_of(self.TOLD, **fields), ("twice", name))

    def test_some_end_but_the_last_is_done(self):
        self.assert_twice(ends={"a": (done(1, 2, 3), failed(2, 4, 5))})
        self.assert_twice(ends={"a": (failed(1, 2, 3), done(2, 4, 5), done(3, 6, 7))})

    def test_more_ends_than_tries(self):
        lot = tuple(failed(k, 2 * k, 2 * k + 1) for k in range(1, 4))
        self.assert_fault(store_of(self.TOLD, ends={"a": lot + (done(4, 8, 9),)}), None)
        self.assert_twice(ends={"a": lot + (failed(4, 8, 9), done(5, 10, 11))})
        self.assert_twice("b", ends={"b": (failed(1, 2, 3), failed(2, 4, 5))})

    def test_fences_and_moments_one_behind_another(self):
        self.assert_twice(ends={"a": (failed(5, 2, 3), failed(4, 4, 5))})
        self.assert_twice(ends={"a": (failed(1, 2, 4), failed(2, 3, 5))})
        # At the very moment of the end ahead is no fault.
        self.assert_fault(store_of(self.TOLD, ends={"a": (failed(1, 2, 4), failed(2, 4, 5))}), None)
        self.assert_twice(ends={"a": (failed(5, 2, 3),)}, holds={"a": (4, 0, 2, 4, 9)})
        self.assert_twice(ends={"a": (failed(1, 2, 4),)}, holds={"a": (2, 0, 2, 3, 9)})
        self.assert_fault(store_of(self.TOLD, ends={"a": (failed(1, 2, 4),)}, holds={"a": (2, 0, 2, 4, 9)}), None)
        self.assert_twice(ends={"a": (failed(1, 2, 4), failed(3, 5, 6))}, holds={"a": (2, 0, 3, 7, 9)})

    def test_an_end_that_is_not_behind_its_begin(self):
        for ended in (4, 3, -2):
            self.assert_twice(ends={"a": (failed(1, 4, ended),)})
            self.assert_twice("b", ends={"a": (failed(1, 1, 2),), "b": (done(2, 4, ended),)})

    def test_held_though_it_has_ended(self):
        self.assert_twice("b", ends={"b": (done(1, 2, 3),)}, holds={"b": (2, 0, 2, 4, 9)})
        self.assert_twice("b", ends={"b": (failed(1, 2, 3),)}, holds={"b": (2, 0, 2, 4, 9)})
        self.assert_twice("b", barred={"b": "a"}, holds={"b": (2, 0, 1, 4, 9)})
        lot = tuple(failed(k, 2 * k, 2 * k + 1) for k in range(1, 5))
        self.assert_twice(ends={"a": lot}, holds={"a": (9, 0, 5, 20, 9)})

    def test_the_attempt_of_a_hold(self):
        for many in (0, 1, 2):
            lot = tuple(failed(k, 2 * k, 2 * k + 1) for k in range(1, many + 1))
            for attempt in (0, 1, 2, 3, 4, -1):
                store = store_of(self.TOLD, ends={"a": lot} if lot else {}, holds={"a": (9, 0, attempt, 20, 9)})
                self.assert_fault(store, None if attempt == many + 1 else ("twice", "a"))

    def test_barred_and_ends(self):
        told = book(job("a", (), ("demand", ("value", 0), ("value", 1))), job("b", ("a",), ("demand", ("value", 0), ("value", 1)), tries=3))
        store = store_of(told, ends={"a": (failed(1, 2, 3),)}, barred={"b": "a"})
        self.assert_fault(store, None)
        self.assert_fault(dict(store, ends=dict(store["ends"], b=(failed(2, 4, 5),))), ("twice", "b"))


class Early(Test):
    TOLD = book(job("a", (), ("demand", ("below", ("value", 1), ("attempt",)), ("value", 1)), tries=3, start=5), job("b"))

    def test_each_attempt(self):
        for since, due in ((4, ("early", "a")), (0, ("early", "a")), (5, None), (6, None)):
            self.assert_fault(store_of(self.TOLD, ends={"a": (failed(1, 2, 3, since),)}), due)
            self.assert_fault(store_of(self.TOLD, ends={"a": (failed(1, 2, 3), done(2, 4, 5, 1, since))}), due)
            self.assert_fault(store_of(self.TOLD, holds={"a": (1, 0, 1, 2, since)}), due)
            # A hold that was given up is no attempt.
            self.assert_fault(store_of(self.TOLD, freed=((1, "a", 0, 1, 2, since, 3),)), None)

    def test_behind_twice(self):
        self.assert_fault(store_of(self.TOLD, ends={"a": (failed(1, 3, 3, 0),)}), ("twice", "a"))


class Needs(Test):
    FAILS = ("demand", ("value", 0), ("value", 1))

    def books(self, mode):
        return book(job("a", (), ("demand", ("below", ("value", 1), ("attempt",)), ("value", 6)), tries=2), job("b", (), self.FAILS, tries=2),
                    job("c", ("b",)), job("x", ("a",), mode=mode, tries=2), job("y", ("b",), mode=mode), job("z", ("c",), mode=mode))

    def judged(self, mode, name, begun, **more):
        """By an end that begins at this moment, and by a hold."""
        fields = {"ends": {"a": (failed(1, 2, 3), done(2, 4, 6, 6)), "b": (failed(3, 10, 11), failed(4, 12, 16))}, "barred": {"c": "b"}}
        fields["ends"].update(more)
        held = store_of(self.books(mode), **dict(fields, holds={name: (9, 0, 1, begun, 9)}))
        ended = store_of(self.books(mode), **dict(fields, ends=dict(fields["ends"], **{name: (done(9, begun, begun + 1),)})))
        self.assertEqual(judge_store(held), naive_judge_store(held))
        self.assertEqual(judge_store(ended), judge_store(held))
        return judge_store(held)

    def test_done_needs(self):
        for mode in ("all", "ended"):
            for begun, due in ((5, ("needs", "x")), (4, ("needs", "x")), (6, None), (7, None), (-3, ("needs", "x"))):
                self.assertEqual(self.judged(mode, "x", begun), due)

    def test_failed_needs(self):
        for begun in (10, 15, 16, 17):
            self.assertEqual(self.judged("all", "y", begun), ("needs", "y"))
            self.assertEqual(self.judged("ended", "y", begun), None if begun > 15 else ("needs", "y"))

    def test_needs_that_are_not_yet_ended(self):
        for mode in ("all", "ended"):
            self.assertEqual(self.judged(mode, "x", 50, a=(failed(1, 2, 3),)), ("needs", "x"))
            told = book(job("b", (), self.FAILS, tries=2), job("y", ("b",), mode=mode))
            for lot in ((), (failed(3, 10, 11),)):
                self.assert_fault(store_of(told, ends={"b": lot} if lot else {}, holds={"y": (9, 0, 1, 50, 9)}), ("needs", "y"))

    def test_barred_needs(self):
        # At which moment it was barred stands nowhere.
        for begun in (1, 17, 80):
            self.assertEqual(self.judged("all", "z", begun), ("needs", "z"))
            self.assertEqual(self.judged("ended", "z", begun), None)

    def test_more_ends_than_tries_are_an_end_too(self):
        told = book(job("b", ("a",), mode="ended"), job("c", (), self.FAILS, tries=1), things=())
        told = book(job("a", ("c",), mode="ended"), job("c", (), self.FAILS, tries=1))
        lot = (failed(1, 2, 3), failed(2, 4, 5))
        self.assert_fault(store_of(told, ends={"c": lot}, holds={"a": (7, 0, 1, 9, 9)}), ("twice", "c"))
        self.assert_fault(store_of(told, ends={"c": lot}, holds={"a": (7, 0, 1, 4, 9)}), ("needs", "a"))

    def test_each_attempt_and_each_need(self):
        told = book(job("a"), job("b"), job("c", ("a", "b"), ("demand", ("below", ("value", 1), ("attempt",)), ("value", 1)), tries=2))
        ends = {"a": (done(1, 2, 3),), "b": (done(2, 4, 5),)}
        self.assert_fault(store_of(told, ends=dict(ends, c=(failed(3, 4, 6), done(4, 7, 8)))), ("needs", "c"))
        self.assert_fault(store_of(told, ends=dict(ends, c=(failed(3, 5, 6), done(4, 7, 8)))), None)
        self.assert_fault(store_of(told, ends={"b": ends["b"]}, holds={"c": (9, 0, 1, 20, 9)}), ("needs", "c"))
        # A hold that was given up is no attempt.
        self.assert_fault(store_of(told, ends=ends, freed=((9, "c", 0, 1, 1, 9, 2),)), None)

    def test_behind_early(self):
        told = book(job("a"), job("b", ("a",), start=3))
        self.assert_fault(store_of(told, holds={"b": (1, 0, 1, 2, 2)}), ("early", "b"))
        self.assert_fault(store_of(told, holds={"b": (1, 0, 1, 2, 3)}), ("needs", "b"))


class Made(Test):
    TOLD = book(job("a", (), ("demand", ("below", ("value", 1), ("attempt",)), ("plus", ("attempt",), ("value", 4))), tries=3),
                job("b", ("a",), ("joined", ("result", "a"), ("value", "x"))), job("c", (), ("value", 1)))

    def test_each_word_and_value(self):
        for lot, due in (((failed(1, 2, 3), done(2, 4, 5, 6)), None), ((done(1, 2, 3, 6),), "a"), ((failed(1, 2, 3), done(2, 4, 5, 7)), "a"),
                         ((failed(1, 2, 3), failed(2, 4, 5)), "a"), ((failed(1, 2, 3), done(2, 4, 5, None)), "a"),
                         ((failed(1, 2, 3), done(2, 4, 5, "6")), "a"), ((("failed", 1, 2, 9, 3, 0), done(2, 4, 5, 6)), "a"),
                         ((("failed", 1, 2, 9, 3, "x"),), "a"), ((failed(1, 2, 3),), None)):
            self.assert_fault(store_of(self.TOLD, ends={"a": lot}), None if due is None else ("made", due))

    def test_of_the_results_that_stand(self):
        told = book(self.TOLD[1][0], job("b", ("a",), ("plus", ("result", "a"), ("value", 1))))
        ends = {"a": (failed(1, 2, 3), done(2, 4, 5, 6))}
        for value, due in ((7, None), (8, ("made", "b")), (None, ("made", "b"))):
            self.assert_fault(store_of(told, ends=dict(ends, b=(done(3, 6, 7, value),))), due)
        told = book(job("a", (), ("demand", ("value", 0), ("value", 1))), job("b", ("a",), ("result", "a"), mode="ended"))
        self.assert_fault(store_of(told, ends={"a": (failed(1, 2, 3),), "b": (done(2, 4, 5, None),)}), None)
        self.assert_fault(store_of(told, ends={"a": (failed(1, 2, 3),), "b": (done(2, 4, 5, 0),)}), ("made", "b"))

    def test_true_is_no_integer(self):
        self.assertEqual(judge_store(store_of(self.TOLD, ends={"c": (done(1, 2, 3, True),)})), ("made", "c"))
        self.assertIsNone(judge_store(store_of(self.TOLD, ends={"c": (done(1, 2, 3, 1),)})))

    def test_behind_needs(self):
        self.assert_fault(store_of(self.TOLD, ends={"b": (done(3, 6, 7, 99),)}), ("needs", "b"))


class Barred(Test):
    FAILS = ("demand", ("value", 0), ("value", 1))
    TOLD = book(job("a"), job("b", (), FAILS), job("c", (), FAILS), job("x", ("a", "b", "c")), job("y", ("b",), mode="ended"), job("z", ("x",)))
    ENDS = {"a": (done(1, 2, 3),), "b": (failed(2, 4, 5),), "c": (failed(3, 6, 7),)}

    def test_by_the_first_need_that_is_not_done(self):
        for need in "abcxyz":
            self.assert_fault(store_of(self.TOLD, ends=self.ENDS, barred={"x": need}), None if need == "b" else ("barred", "x"))

    def test_a_need_that_has_not_ended(self):
        self.assert_fault(store_of(self.TOLD, ends={"a": self.ENDS["a"], "c": self.ENDS["c"]}, barred={"x": "b"}), ("barred", "x"))
        self.assert_fault(store_of(self.TOLD, ends={}, barred={"x": "a"}), ("barred", "x"))
        self.assert_fault(store_of(self.TOLD, ends=self.ENDS, barred={"z": "x"}), ("barred", "z"))
        self.assert_fault(store_of(self.TOLD, ends=self.ENDS, barred={"x": "b", "z": "x"}), None)
        self.assert_fault(store_of(self.TOLD, ends=dict(self.ENDS, b=(failed(2, 4, 5), failed(9, 9, 10))), barred={"x": "b"}), ("twice", "b"))

    def test_its_mode_and_no_need_at_all(self):
        self.assert_fault(store_of(self.TOLD, ends=self.ENDS, barred={"y": "b"}), ("barred", "y"))
        self.assert_fault(store_of(self.TOLD, ends={}, barred={"a": "b"}), ("barred", "a"))
        told = book(job("a"), job("b", ("a",)))
        self.assert_fault(store_of(told, ends={"a": (done(1, 2, 3),)}, barred={"b": "a"}), ("barred", "b"))


class TheFirstOfSeveral(Test):
    def test_the_least_job_and_its_first_word(self):
        told = book(job("a", tries=2, start=5), job("b", ("a",), start=5), job("c", uses=PEN), job("d", uses=PEN), things=PEN)
        early = {"b": (1, 0, 7, 2, 2), "a": (2, 0, 1, 2, 3), "c": (3, 0, 1, 4, 9), "d": (4, 0, 1, 4, 9)}
        self.assert_fault(store_of(told, holds=early), ("early", "a"))
        self.assert_fault(store_of(told, holds=dict(early, a=(2, 0, 1, 2, 5))), ("twice", "b"))
        self.assert_fault(store_of(told, holds=dict(early, a=(2, 0, 1, 2, 5), b=(1, 0, 1, 2, 2))), ("early", "b"))
        self.assert_fault(store_of(told, holds=dict(early, a=(2, 0, 1, 2, 5), b=(1, 0, 1, 2, 5))), ("needs", "b"))
        self.assert_fault(store_of(told, holds={"c": early["c"], "d": early["d"]}), ("units", "pen", 4))


class Units(Test):
    TOLD = book(job("a", uses=PEN, tries=2), job("b", uses=PEN), job("c", uses=(("pen", 2), ("saw", 1))), job("d", uses=(("saw", 1),)), job("e"),
                things=(("pen", 2), ("saw", 1)))

    def assert_units(self, due, **fields):
        self.assert_fault(store_of(self.TOLD, **fields), due)

    def test_holds_that_stand(self):
        self.assert_units(None, holds={"a": (1, 0, 1, 2, 9), "b": (2, 0, 1, 3, 9), "d": (3, 0, 1, 3, 9)})
        self.assert_units(("units", "pen", 4), holds={"a": (1, 0, 1, 2, 9), "b": (2, 0, 1, 3, 9), "c": (3, 0, 1, 4, 9)})
        self.assert_units(("units", "saw", 5), holds={"c": (1, 0, 1, 2, 9), "d": (2, 0, 1, 5, 9)})
        # The least moment at which too much is used, whichever was written first.
        self.assert_units(("units", "pen", 7), holds={"c": (1, 0, 1, 7, 9), "a": (2, 0, 1, 3, 9)})

    def test_ends(self):
        held = {"c": (3, 0, 1, 4, 9)}
        for begun, ended, due in ((2, 4, None), (2, 5, ("units", "pen", 4)), (1, 3, None), (4, 5, ("units", "pen", 4)), (9, 12, ("units", "pen", 9))):
            self.assert_units(due, ends={"a": (done(1, begun, ended),)}, holds=held)

    def test_freed_ones(self):
        held = {"c": (3, 0, 1, 4, 9)}
        for begun, freed, due in ((2, 4, None), (2, 5, ("units", "pen", 4)), (4, 5, ("units", "pen", 4)), (6, 7, ("units", "pen", 6)),
                                  # At no moment at all.
                                  (6, 6, None), (6, 5, None), (9, 1, None)):
            self.assert_units(due, freed=((1, "a", 0, 1, begun, 9, freed),), holds=held)

    def test_fences_are_no_moments(self):
        held = {"c": (80, 0, 1, 4, 9)}
        # Of a great fence, and it counts; of a little one, and it counts at no moment, not for less than nothing.
        self.assert_units(("units", "pen", 4), freed=((50, "a", 0, 1, 2, 9, 5),), holds=held)
        self.assert_units(("units", "pen", 6), freed=((1, "a", 0, 1, 9, 9, 5),), holds=held, ends={"b": (done(2, 6, 8),)})

    def test_the_least_thing_and_its_least_moment(self):
        holds = {"c": (1, 0, 1, 2, 9), "d": (2, 0, 1, 3, 9), "a": (3, 0, 1, 9, 9)}
        self.assert_units(("units", "pen", 9), holds=holds)
        self.assert_units(("units", "saw", 3), holds={"c": holds["c"], "d": holds["d"]})
        self.assert_units(("units", "pen", 5), holds=dict(holds, a=(3, 0, 1, 9, 9), b=(4, 0, 1, 5, 9)))

    def test_several_holds_of_one_job(self):
        ends = {"a": (done(1, 2, 9),)}
        self.assert_units(("units", "pen", 3), ends=ends, freed=((2, "a", 0, 1, 3, 9, 5), (3, "b", 0, 1, 3, 9, 5)))
        self.assert_units(None, ends=ends, freed=((2, "a", 0, 1, 3, 9, 5),))
        self.assert_units(None, ends=ends, freed=((2, "a", 0, 1, 3, 9, 5), (3, "b", 0, 1, 5, 9, 7)))

    def test_below_zero(self):
        self.assert_units(("units", "pen", -3), holds={"c": (1, 0, 1, -5, 9), "a": (2, 0, 1, -3, 9)})


class JudgeEnds(Test):
    """[13.3]"""

    def test_what_stands_and_what_is_due(self):
        for name, lot, there in (("a", (done(1, 2, 3, 6),), ("done", 1, 6)), ("a", (failed(1, 2, 3), done(3, 5, 6, 7)), ("done", 2, 7)),
                                 ("a", (failed(1, 2, 3),) * 3, ("failed", 3))):
            store = dict(RIGHT, ends=dict(RIGHT["ends"], **{name: lot}))
            self.assertEqual(judge_ends(store), ("else", "a", there, ("done", 2, 6)))
        self.assertEqual(judge_ends(dict(RIGHT, barred={"c": "a"})), ("else", "c", ("barred", "a"), ("barred", "b")))
        self.assertEqual(judge_ends(dict(RIGHT, barred={"c": "b", "d": "b"})), ("else", "d", ("barred", "b"), ("done", 1, 6)))

    def test_the_least_job(self):
        store = dict(RIGHT, ends=dict(RIGHT["ends"], b=(done(4, 7, 8, 1),), e=(done(9, 9, 10, "y"),)))
        self.assertEqual(judge_ends(store), ("else", "b", ("done", 1, 1), ("failed", 1)))
        # One that has not ended is not looked at.
        self.assertIsNone(judge_ends(dict(RIGHT, ends={"a": (failed(1, 2, 3),)}, barred={})))

    def test_true_is_no_integer(self):
        told = book(job("a"))
        self.assertEqual(judge_ends(store_of(told, ends={"a": (done(1, 2, 3, True),)})), ("else", "a", ("done", 1, True), ("done", 1, 1)))


def heard(store, *letters):
    for letter in letters:
        store = store_hears(store, letter)[0]
    return store


class Why(Test):
    """[13.4], [13.5]"""

    def at(self, time, *letters):
        store = new_store(BOOK)
        for _ in range(time):
            store = ticked(store)
        return heard(store, ("take", 1), *letters)

    def fails(self, name, fence, attempt=1):
        return ("grant", 1, name, fence, 0), ("end", 0, name, fence, attempt, ("failed",))

    def does(self, name, fence, attempt, value):
        return ("grant", 1, name, fence, 0), ("end", 0, name, fence, attempt, ("done", value))

    def test_each_answer(self):
        store = self.at(0)
        self.assertEqual([why_now(store, name) for name in "abcde"], [("may",), ("time", 2), ("needs", ("a", "b")), ("needs", ("a", "b")), ("may",)])
        store = heard(store, ("grant", 1, "a", 1, 3))
        self.assertEqual([why_now(store, name) for name in "ae"], [("held", 1, 3, 1), ("units", (("pen", 0, 1),))])
        store = heard(store, ("end", 3, "a", 1, 1, ("failed",)))
        self.assertEqual([why_now(store, name) for name in "ae"], [("may",), ("may",)])
        store = heard(store, ("grant", 1, "a", 4, 2))
        self.assertEqual(why_now(store, "a"), ("held", 4, 2, 2))
        store = heard(store, ("end", 2, "a", 4, 2, ("done", 6)))
        self.assertEqual([why_now(store, name) for name in "abcd"], [("done", 4, 2, 6, ()), ("time", 2), ("needs", ("b",)), ("needs", ("b",))])
        store = heard(ticked(ticked(store)), *self.fails("b", 5))
        self.assertEqual([why_now(store, name) for name in "bcd"], [("failed", (5,)), ("bar", "b"), ("may",)])
        store = heard(store, ("bar", 1, "c", "b"), *self.does("d", 6, 1, 6))
        self.assertEqual([why_now(store, name) for name in "cd"], [("barred", ("c", "b")), ("done", 6, 1, 6, (("a", 6), ("b", None)))])

    def test_the_first_of_several(self):
        told = book(job("a", uses=PEN), job("b", (), ("demand", ("value", 0), ("value", 1))), job("x", ("a", "b"), uses=(("pen", 1), ("saw", 2)), start=9),
                    job("y", ("a", "b"), mode="ended", uses=(("pen", 1), ("saw", 2)), start=9), things=(("pen", 1), ("saw", 2)))
        store = heard(new_store(told), ("take", 1))
        self.assertEqual([why_now(store, name) for name in "xy"], [("needs", ("a", "b"))] * 2)
        store = heard(store, *self.fails("b", 1))
        self.assertEqual([why_now(store, name) for name in "xy"], [("needs", ("a", "b")), ("needs", ("a",))])
        store = heard(store, *self.does("a", 2, 1, 1))
        self.assertEqual([why_now(store, name) for name in "xy"], [("bar", "b"), ("time", 9)])
        later = dict(store, time=9)
        self.assertEqual([why_now(later, name) for name in "xy"], [("bar", "b"), ("may",)])

    def test_units(self):
        told = book(job("a", uses=(("pen", 2), ("saw", 1))), job("b", uses=(("pen", 2), ("saw", 3))), job("c", uses=(("pen", 1), ("saw", 2))),
                    job("d", uses=(("saw", 1),)), things=(("pen", 3), ("saw", 3)))
        store = heard(new_store(told), ("take", 1), ("grant", 1, "a", 1, 0))
        self.assertEqual([why_now(store, name) for name in "bcd"], [("units", (("pen", 1, 2), ("saw", 2, 3))), ("may",), ("may",)])
        store = heard(store, ("grant", 1, "d", 2, 1))
        self.assertEqual([why_now(store, name) for name in "bc"], [("units", (("pen", 1, 2), ("saw", 1, 3))), ("units", (("saw", 1, 2),))])

    def test_chains_of_barred_jobs(self):
        fails = ("demand", ("value", 0), ("value", 1))
        told = book(job("a", ("b",)), job("b", ("c", "x")), job("c", ("d",)), job("d", (), fails, tries=2), job("x", (), fails))
        store = heard(new_store(told), ("take", 1), *self.fails("d", 1), *self.fails("d", 2, 2), *self.fails("x", 3))
        self.assertEqual([why_now(store, name) for name in "abcd"], [("needs", ("b",)), ("needs", ("c", "x")), ("bar", "d"), ("failed", (1, 2))])
        store = heard(store, ("bar", 1, "c", "d"), ("bar", 1, "b", "c"), ("bar", 1, "a", "b"))
        self.assertEqual([why_now(store, name) for name in "abc"], [("barred", ("a", "b", "c", "d")), ("barred", ("b", "c", "d")), ("barred", ("c", "d"))])

    def test_ready_and_waited_for(self):
        store = self.at(0)
        self.assertEqual((ready_now(store), waited_for(store)), (("a", "e"), (("a", 2), ("b", 2))))
        store = heard(store, *self.fails("a", 1), *self.does("a", 2, 2, 6))
        self.assertEqual((ready_now(store), waited_for(store)), (("e",), (("b", 2),)))
        store = heard(ticked(ticked(store)), *self.fails("b", 3))
        # c is to be barred, and waits no more.
        self.assertEqual((ready_now(store), waited_for(store)), (("d", "e"), ()))
        self.assertEqual((ready_now(new_store(book())), waited_for(new_store(book()))), ((), ()))


class JudgeWhy(Test):
    def test_just_this(self):
        store = heard(dict(RIGHT, holds={}), ("grant", 1, "e", 7, 3))
        for name in "abcde":
            due = why_now(store, name)
            self.assertIsNone(judge_why_now(store, name, due))
            for other in "abcde":
                if why_now(store, other) != due:
                    self.assertEqual(judge_why_now(store, name, why_now(store, other)), ("not", due[0]))

    def near(self, due):
        """Values near an answer: longer, shorter, lists for tuples, True for 1, within it too."""
        yield from (list(due), due + (None,), due[:-1], (due,), due[0], [due], {"a": due}, due[:-1] + (due,))
        for k, part in enumerate(due):
            for value in (None, True, False, 0, 1, "x", (), [part], (part,), {}, list(part) if isinstance(part, tuple) else -7):
                if value != part or isinstance(value, bool):
                    yield due[:k] + (value,) + due[k + 1:]
            if isinstance(part, tuple) and part:
                yield due[:k] + (part + part[:1],) + due[k + 1:]
                yield due[:k] + (part[1:],) + due[k + 1:]
                yield due[:k] + (part[:-1] + (list(part[-1]) if isinstance(part[-1], tuple) else [part[-1]],),) + due[k + 1:]

    def test_near_values_and_odd_ones(self):
        store = heard(dict(RIGHT, holds={}), ("grant", 1, "e", 7, 1))
        early = new_store(BOOK)
        for stands, name in [(store, name) for name in "abcde"] + [(early, name) for name in "abcde"] + [(RIGHT, "e"), (RIGHT, "d")]:
            due = why_now(stands, name)
            for value in list(self.near(due)) + list(ODD_VALUES):
                self.assertEqual(judge_why_now(stands, name, value), ("not", due[0]), (due, value))

    def test_true_for_one(self):
        told = book(job("a"))
        store = heard(new_store(told), ("take", 1), ("grant", 1, "a", 1, 1))
        self.assertIsNone(judge_why_now(store, "a", ("held", 1, 1, 1)))
        for value in (("held", True, 1, 1), ("held", 1, True, 1), ("held", 1, 1, True)):
            self.assertEqual(judge_why_now(store, "a", value), ("not", "held"))
        store = heard(store, ("end", 1, "a", 1, 1, ("done", 1)))
        self.assertIsNone(judge_why_now(store, "a", ("done", 1, 1, 1, ())))
        for value in (("done", True, 1, 1, ()), ("done", 1, True, 1, ()), ("done", 1, 1, True, ()), ("done", 1, 1, 1, []), ("done", 1, 1, 1)):
            self.assertEqual(judge_why_now(store, "a", value), ("not", "done"))


class ByChance(Test):
    def runs(self, chance, many):
        for _ in range(many):
            run = Run(chance, world_book(chance, chance.choice((3, 5, 8)), chance.choice((0, 0, 4, 20))), chance.choice((1, 3, 8)))
            for _ in range(chance.randrange(300)):
                run.one_step()
            yield run.store

    def test_stores_that_came_about(self):
        chance = random.Random(401)
        words = {}
        for store in self.runs(chance, 400):
            self.assert_fault(store, None)
            self.assertIsNone(judge_ends(store))
            due = dict(outcomes(store["book"]))
            self.assertEqual(told_outcomes(store), tuple((name, due[name]) for name in sorted(due) if outcome_in(store, name) is not None))
            self.assertIs(have_all_ended(store), still_open(store) == ())
            reasons = {name: naive_why(store, name) for name in due}
            for name, reason in reasons.items():
                words[reason[0]] = words.get(reason[0], 0) + 1
                self.assertEqual(why_now(store, name), reason)
                self.assertIsNone(judge_why_now(store, name, reason))
            self.assertEqual(ready_now(store), tuple(sorted(name for name in reasons if reasons[name] == ("may",))))
            waiting = [need for reason in reasons.values() if reason[0] == "needs" for need in reason[1]]
            self.assertEqual(waited_for(store), tuple(sorted((need, waiting.count(need)) for need in set(waiting))))
            # Where something is left, one of these is so.
            if not have_all_ended(store):
                self.assertTrue({reason[0] for reason in reasons.values()} & {"held", "may", "bar", "time"})
        self.assertGreater(min(words.get(word, 0) for word in "done failed barred held bar needs time units may".split()), 4, words)

    def test_stores_in_which_something_is_exchanged(self):
        chance = random.Random(402)
        words = {}
        for store in self.runs(chance, 120):
            for _ in range(90):
                other = store
                for _ in range(chance.choice((1, 1, 2, 4))):
                    other = exchanged_store(chance, other)
                due = naive_judge_store(other)
                self.assertEqual(judge_store(other), due)
                words[due and due[0]] = words.get(due and due[0], 0) + 1
        self.assertGreater(min(words.get(word, 0) for word in (None, "fence", "twice", "early", "needs", "made", "barred", "units")), 10, words)


class Bounds(Test):
    """[13.6]"""

    def test_forty_jobs(self):
        names = ["j" + chr(97 + k // 26) + chr(97 + k % 26) for k in range(40)]
        told = book(*[job(name, names[max(0, k - 12):k], uses=PEN) for k, name in enumerate(names)], things=PEN)
        store = heard(new_store(told), ("take", 1))
        for k, name in enumerate(names):
            store = heard(store, ("grant", 1, name, 2 * k + 1, 7), ("free", 1, name, 2 * k + 1), ("grant", 1, name, 2 * k + 2, 7))
            self.assertEqual(why_now(store, name), ("held", 2 * k + 2, 7, 1))
            self.assertEqual(ready_now(store), ())
            store = heard(store, ("end", 7, name, 2 * k + 2, 1, ("done", 1)))
        self.assert_fault(store, None)
        self.assertIs(have_all_ended(store), True)
        self.assertEqual(len(why_now(store, names[39])[4]), 12)

    def test_a_long_history(self):
        told = book(job("a", uses=PEN), job("b", uses=PEN), things=PEN)
        freed = tuple((k, "ab"[k % 2], 0, 1, 2 * k, 9, 2 * k + 1) for k in range(1, 1001))
        self.assertIsNone(judge_store(store_of(told, fence=1000, freed=freed)))
        self.assertEqual(judge_store(store_of(told, fence=1001, freed=freed + ((1001, "a", 0, 1, 1100, 9, 1101),))), ("units", "pen", 1100))

    def test_great_values(self):
        told = book(job("a", (), ("value", 10 ** 9)), job("b", ("a",), ("times", ("result", "a"), ("result", "a"))))
        self.assert_fault(store_of(told, ends={"a": (done(1, 2, 3, 10 ** 4000),)}), ("made", "a"))
        self.assertEqual(judge_ends(store_of(told, ends={"a": (done(1, 2, 3, 10 ** 4000),)}))[2], ("done", 1, 10 ** 4000))


class Keeping(Test):
    def test_no_store_is_modified(self):
        for store in (RIGHT, new_store(BOOK), dict(RIGHT, fence=2)):
            before = repr(store)
            told_outcomes(store), have_all_ended(store), judge_store(store), judge_ends(store), ready_now(store), waited_for(store)
            for name in "abcde":
                why_now(store, name), judge_why_now(store, name, [name])
            self.assertEqual(repr(store), before)


if __name__ == "__main__":
    unittest.main()
