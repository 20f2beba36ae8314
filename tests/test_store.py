"""Part 7: the store, what it tells, what bars a grant, how it answers letters, and that it comes back."""

import random
import unittest

from effectonce.letters import is_letter
from effectonce.meaning import outcomes
from effectonce.store import (attempt_in, bar_need, bars_grant, free_units, has_ended, new_store, outcome_in, results_in,
                              still_open, store_again, store_hears, ticked)
from tests.samples import WEB, book, job
from tests.store_oracles import Rows, random_letter, store_book

FIELDS = ["book", "time", "epoch", "moment", "fence", "holds", "ends", "barred", "freed"]
PEN = (("pen", 1),)
# a may be tried twice; b waits for a, c for any end of a, d for b and c.
BOOK = book(job("a", uses=PEN, tries=2), job("b", ("a",), uses=PEN, start=3), job("c", ("a",), mode="ended"),
            job("d", ("b", "c"), tries=3), things=(("pen", 1), ("saw", 4)))


def heard(store, *letters):
    """The store behind all these letters."""
    for letter in letters:
        store = store_hears(store, letter)[0]
    return store


def answer_of(store, letter):
    answers = store_hears(store, letter)[1]
    if not isinstance(answers, tuple) or len(answers) != 1:
        raise AssertionError(answers)
    return answers[0]


def after_ticks(store, many):
    for _ in range(many):
        store = ticked(store)
    return store


def taken(told, time=0):
    """A store of the epoch 1."""
    return heard(after_ticks(new_store(told), time), ("take", 1))


def held(told, *names):
    """A store in which these jobs are held, by fences from 1 on, on the machine 0."""
    return heard(taken(told, 9), *[("grant", 1, name, k + 1, 0) for k, name in enumerate(names)])


def done(store, name, value=None):
    """The store in which a job is granted and done."""
    fence = store["fence"] + 1
    store = heard(store, ("grant", store["epoch"], name, fence, 0))
    return heard(store, ("end", 0, name, fence, attempt_in(store, name), ("done", value)))


def failed(store, name):
    """The store in which an attempt of a job is granted, and fails."""
    fence = store["fence"] + 1
    store = heard(store, ("grant", store["epoch"], name, fence, 0))
    return heard(store, ("end", 0, name, fence, attempt_in(store, name), ("failed",)))


class Beginning(unittest.TestCase):
    def test_the_fields(self):
        store = new_store(BOOK)
        self.assertEqual(list(store), FIELDS)
        self.assertEqual(store, {"book": BOOK, "time": 0, "epoch": 0, "moment": 0, "fence": 0, "holds": {}, "ends": {},
                                 "barred": {}, "freed": ()})

    def test_ticks(self):
        store = taken(BOOK)
        later = ticked(store)
        self.assertEqual(later, dict(store, time=1))
        self.assertEqual(after_ticks(new_store(BOOK), 7)["time"], 7)

    def test_the_moment_behind_each_letter(self):
        store = ticked(new_store(BOOK))
        moments = []
        for letter in (("take", 3), ("take", 3), ("grant", 3, "a", 4, 2), ("ask", 3), ("free", 3, "a", 4), ("free", 3, "a", 4),
                       ("grant", 3, "a", 7, 1), ("end", 1, "a", 7, 1, ("failed",)), ("end", 1, "a", 7, 1, ("failed",)),
                       ("grant", 3, "a", 8, 0), ("end", 0, "a", 8, 2, ("failed",)), ("bar", 3, "b", "a"), ("bar", 3, "b", "a"),
                       ("take", 9), ("take", 2)):
            store = heard(store, letter)
            moments.append(store["moment"])
        self.assertEqual(moments, [1, 1, 2, 2, 3, 3, 4, 5, 5, 6, 7, 8, 8, 9, 9])
        self.assertEqual(store, {
            "book": BOOK, "time": 1, "epoch": 9, "moment": 9, "fence": 8, "holds": {}, "barred": {"b": "a"},
            "ends": {"a": (("failed", 7, 4, 1, 5, None), ("failed", 8, 6, 1, 7, None))},
            "freed": ((4, "a", 2, 1, 2, 1, 3),)})

    def test_freed_ascends_by_fences(self):
        told = book(job("a"), job("b"), job("c"))
        store = heard(taken(told), ("grant", 1, "a", 1, 0), ("grant", 1, "b", 2, 1), ("grant", 1, "c", 3, 2), ("free", 1, "c", 3))
        store = heard(ticked(store), ("free", 1, "a", 1), ("grant", 1, "a", 11, 3), ("free", 1, "b", 2), ("free", 1, "a", 11))
        self.assertEqual(store["freed"], ((1, "a", 0, 1, 2, 0, 6), (2, "b", 1, 1, 3, 0, 8), (3, "c", 2, 1, 4, 0, 5), (11, "a", 3, 1, 7, 1, 9)))

    def test_jobs_without_ends_stand_nowhere_in_ends(self):
        for store in (held(BOOK, "a"), heard(held(BOOK, "a"), ("free", 1, "a", 1)), failed(failed(taken(BOOK), "a"), "b"),
                      heard(failed(failed(taken(BOOK), "a"), "a"), ("bar", 1, "b", "a"))):
            self.assertTrue(all(store["ends"].values()))
        self.assertEqual(held(BOOK, "a")["ends"], {})


class WhatItTells(unittest.TestCase):
    def stands(self, store, name):
        return (has_ended(store, name), outcome_in(store, name), attempt_in(store, name), name in still_open(store))

    def test_each_stage_of_a_job(self):
        store = taken(BOOK)
        self.assertEqual(self.stands(store, "a"), (False, None, 1, True))
        store = heard(store, ("grant", 1, "a", 1, 0))
        self.assertEqual(self.stands(store, "a"), (False, None, 1, True))
        store = heard(store, ("free", 1, "a", 1), ("grant", 1, "a", 2, 0))
        self.assertEqual(self.stands(store, "a"), (False, None, 1, True))
        store = heard(store, ("end", 0, "a", 2, 1, ("failed",)))
        self.assertEqual(self.stands(store, "a"), (False, None, 2, True))
        self.assertEqual(self.stands(done(store, "a", "x"), "a"), (True, ("done", 2, "x"), 3, False))
        self.assertEqual(self.stands(failed(store, "a"), "a"), (True, ("failed", 2), 3, False))
        self.assertEqual(self.stands(done(taken(BOOK), "a"), "a"), (True, ("done", 1, None), 2, False))

    def test_a_barred_job(self):
        store = failed(failed(taken(BOOK), "a"), "a")
        self.assertEqual(self.stands(store, "b"), (False, None, 1, True))
        store = heard(store, ("bar", 1, "b", "a"))
        self.assertEqual(self.stands(store, "b"), (True, ("barred", "a"), 1, False))
        self.assertEqual(still_open(store), ("c", "d"))

    def test_answers_are_yes_and_no(self):
        for store in (taken(BOOK), held(BOOK, "a"), failed(taken(BOOK), "a"), done(taken(BOOK), "a")):
            for name in "abcd":
                self.assertIn(repr(has_ended(store, name)), ("True", "False"))

    def test_results(self):
        store = taken(BOOK, 9)
        self.assertEqual(results_in(store, "a"), ())
        self.assertEqual(results_in(store, "d"), (("b", None), ("c", None)))
        store = done(store, "a", 5)
        self.assertEqual(results_in(store, "b"), (("a", 5),))
        store = done(store, "c", "y")
        self.assertEqual(results_in(store, "d"), (("b", None), ("c", "y")))
        self.assertEqual(results_in(done(store, "b", -3), "d"), (("b", -3), ("c", "y")))
        # A failed attempt, and a failed or barred job, have no value.
        self.assertEqual(results_in(failed(taken(BOOK), "a"), "b"), (("a", None),))
        store = heard(failed(failed(taken(BOOK), "a"), "a"), ("bar", 1, "b", "a"))
        self.assertEqual([results_in(store, name) for name in "bcd"], [(("a", None),), (("a", None),), (("b", None), ("c", None))])

    def test_free_units(self):
        told = book(job("a", uses=(("pen", 2), ("saw", 1))), job("b", uses=(("saw", 3),)), job("c", uses=PEN), job("d"),
                    things=(("axe", 0), ("pen", 3), ("saw", 4)))
        for names, due in (((), (0, 3, 4)), (("a",), (0, 1, 3)), (("a", "b"), (0, 1, 0)), (("c", "a", "d"), (0, 0, 3)),
                           (("d", "b"), (0, 3, 1)), (("a", "b", "c", "d"), (0, 0, 0))):
            self.assertEqual(free_units(held(told, *names)), tuple(zip(("axe", "pen", "saw"), due)))
        store = heard(held(told, "a", "b"), ("free", 1, "b", 2), ("end", 0, "a", 1, 1, ("done", 1)))
        self.assertEqual(free_units(store), (("axe", 0), ("pen", 3), ("saw", 4)))
        self.assertEqual(free_units(new_store(book(job("a")))), ())

    def test_still_open_ascends(self):
        self.assertEqual(still_open(new_store(BOOK)), ("a", "b", "c", "d"))
        self.assertEqual(still_open(done(taken(BOOK), "a")), ("b", "c", "d"))
        self.assertEqual(still_open(new_store(book())), ())


class BarsGrant(unittest.TestCase):
    def test_none(self):
        self.assertIsNone(bars_grant(new_store(BOOK), "a"))
        self.assertIsNone(bars_grant(done(taken(BOOK, 3), "a"), "b"))
        self.assertIsNone(bars_grant(failed(taken(BOOK), "a"), "a"))

    def test_job(self):
        for name in ("z", "pen", "abcdefgh"):
            self.assertEqual(bars_grant(new_store(BOOK), name), ("job",))

    def test_ended(self):
        self.assertEqual(bars_grant(done(taken(BOOK), "a"), "a"), ("ended",))
        store = failed(failed(taken(BOOK), "a"), "a")
        self.assertEqual(bars_grant(store, "a"), ("ended",))
        # Barred, and too early, too.
        self.assertEqual(bars_grant(store, "b"), ("early", 3))
        self.assertEqual(bars_grant(heard(store, ("bar", 1, "b", "a")), "b"), ("ended",))

    def test_held(self):
        self.assertEqual(bars_grant(held(BOOK, "a"), "a"), ("held",))
        self.assertIsNone(bars_grant(heard(held(BOOK, "a"), ("free", 1, "a", 1)), "a"))

    def test_early(self):
        told = book(job("a", ("b",), uses=PEN, start=5), job("b", uses=PEN, start=1), things=PEN)
        for time in range(5):
            self.assertEqual(bars_grant(after_ticks(new_store(told), time), "a"), ("early", 5))
        for time in (5, 6):
            self.assertEqual(bars_grant(after_ticks(new_store(told), time), "a"), ("need", "b"))
        self.assertEqual([bars_grant(after_ticks(new_store(told), time), "b") for time in (0, 1)], [("early", 1), None])

    def test_need_in_both_modes(self):
        for mode in ("all", "ended"):
            told = book(job("a", tries=2), job("b", tries=2), job("c", ("a", "b"), mode=mode, uses=PEN), job("d", uses=PEN), things=PEN)
            store = held(told, "d")
            self.assertEqual(bars_grant(store, "c"), ("need", "a"))
            self.assertEqual(bars_grant(done(store, "b"), "c"), ("need", "a"))
            self.assertEqual(bars_grant(done(store, "a"), "c"), ("need", "b"))
            self.assertEqual(bars_grant(failed(done(store, "a"), "b"), "c"), ("need", "b"))
            store = failed(failed(store, "a"), "a")
            self.assertEqual(bars_grant(store, "c"), ("need", "a" if mode == "all" else "b"))
            store = done(store, "b")
            self.assertEqual(bars_grant(store, "c"), ("need", "a") if mode == "all" else ("units", "pen"))
            self.assertEqual(bars_grant(done(done(held(told, "d"), "a"), "b"), "c"), ("units", "pen"))

    def test_a_barred_need_has_ended(self):
        told = book(job("a"), job("b", ("a",)), job("c", ("b",), mode="ended"), job("d", ("b",)))
        store = failed(taken(told), "a")
        self.assertEqual([bars_grant(store, name) for name in "bcd"], [("need", "a"), ("need", "b"), ("need", "b")])
        store = heard(store, ("bar", 1, "b", "a"))
        self.assertEqual([bars_grant(store, name) for name in "bcd"], [("ended",), None, ("need", "b")])

    def test_units(self):
        things = (("pen", 2), ("saw", 2))
        told = book(job("a", uses=(("pen", 1), ("saw", 1))), job("b", uses=(("pen", 1), ("saw", 2))), job("c", uses=(("pen", 2), ("saw", 2))),
                    job("d", uses=(("pen", 1),)), things=things)
        self.assertEqual([bars_grant(held(told, "a"), name) for name in "bcd"], [("units", "saw"), ("units", "pen"), None])
        self.assertEqual([bars_grant(held(told, "d"), name) for name in "abc"], [None, None, ("units", "pen")])
        self.assertEqual(bars_grant(held(told, "c"), "a"), ("units", "pen"))
        self.assertEqual(bars_grant(held(told, "a", "d"), "b"), ("units", "pen"))


class BarNeed(unittest.TestCase):
    TOLD = book(job("a"), job("b"), job("c"), job("x", ("a", "b", "c")), job("y", ("a", "b", "c"), mode="ended"), job("z", ("x",)))

    def test_none_as_long_as_none_has_failed(self):
        store = taken(self.TOLD)
        for name in "abcxyz":
            self.assertIsNone(bar_need(store, name))
        store = done(done(done(store, "a"), "b"), "c")
        for name in "abcxyz":
            self.assertIsNone(bar_need(store, name))

    def test_the_first_that_is_not_done_has_ended(self):
        store = failed(taken(self.TOLD), "b")
        self.assertIsNone(bar_need(store, "x"))
        self.assertEqual(bar_need(done(store, "a"), "x"), "b")
        self.assertEqual(bar_need(failed(store, "a"), "x"), "a")
        self.assertIsNone(bar_need(heard(store, ("grant", 1, "a", 9, 0)), "x"))
        store = failed(done(store, "a"), "c")
        self.assertEqual(bar_need(store, "x"), "b")
        self.assertIsNone(bar_need(store, "y"))
        self.assertIsNone(bar_need(store, "b"))

    def test_behind_its_own_bar(self):
        store = heard(failed(taken(self.TOLD), "a"), ("bar", 1, "x", "a"))
        self.assertIsNone(bar_need(store, "x"))
        self.assertEqual(bar_need(store, "z"), "x")
        self.assertIsNone(bar_need(heard(store, ("bar", 1, "z", "x")), "z"))

    def test_a_failed_attempt_is_no_end_of_the_job(self):
        told = book(job("a", tries=2), job("b", ("a",)))
        store = failed(taken(told), "a")
        self.assertIsNone(bar_need(store, "b"))
        self.assertEqual(bar_need(failed(store, "a"), "b"), "a")


class Letters(unittest.TestCase):
    """[7.4], letter by letter: what is written, what is heard again, what is refused."""

    def assert_written(self, store, letter, answer, **fields):
        """The letter changes just these fields, and the moment; heard again it changes nothing."""
        now, answers = store_hears(store, letter)
        self.assertEqual(answers, (answer,))
        self.assertEqual(now, dict(store, moment=store["moment"] + 1, **fields))
        self.assertEqual(list(now), FIELDS)
        self.assertEqual(store_hears(now, letter), (now, (answer,)))
        return now

    def assert_same(self, store, letter, answer):
        self.assertEqual(store_hears(store, letter), (store, (answer,)))

    def assert_no(self, store, *letters):
        for letter in letters:
            self.assertTrue(is_letter(letter))
            self.assert_same(store, letter, ("no", store["epoch"], letter))

    def test_take(self):
        store = new_store(BOOK)
        store = self.assert_written(store, ("take", 3), ("taken", 3), epoch=3)
        self.assert_same(store, ("take", 3), ("taken", 3))
        self.assert_no(store, ("take", 2), ("take", 1))
        store = self.assert_written(store, ("take", 4), ("taken", 4), epoch=4)
        self.assert_no(store, ("take", 3))
        store = self.assert_written(held(BOOK, "a"), ("take", 10 ** 59), ("taken", 10 ** 59), epoch=10 ** 59)
        self.assert_no(store, ("take", 10 ** 59 - 1))

    def test_before_any_take(self):
        self.assert_no(new_store(BOOK), ("grant", 1, "a", 1, 0), ("free", 1, "a", 1), ("bar", 1, "b", "a"), ("ask", 1))
        self.assert_same(new_store(BOOK), ("end", 0, "a", 1, 1, ("failed",)), ("refused", 0, "a", 1))

    def test_another_epoch(self):
        store = heard(held(BOOK, "a"), ("take", 5))
        for epoch in (1, 4, 6, 10 ** 59):
            self.assert_no(store, ("grant", epoch, "a", 1, 0), ("grant", epoch, "c", 9, 0), ("free", epoch, "a", 1),
                           ("bar", epoch, "b", "a"), ("ask", epoch))
        store = failed(failed(taken(BOOK), "a"), "a")
        for epoch in (2, 3):
            self.assert_no(store, ("bar", epoch, "b", "a"))

    def test_grant(self):
        store = ticked(taken(BOOK))
        granted = ("granted", 1, "a", 4, 2, 1, ())
        store = self.assert_written(store, ("grant", 1, "a", 4, 2), granted, fence=4, holds={"a": (4, 2, 1, 2, 1)})
        # Long behind it, too, and told anew by a later epoch.
        later = heard(ticked(store), ("take", 3))
        self.assert_same(later, ("grant", 3, "a", 4, 2), ("granted", 3, "a", 4, 2, 1, ()))
        self.assert_no(store, ("grant", 1, "a", 4, 1), ("grant", 1, "a", 5, 2), ("grant", 1, "a", 3, 2), ("grant", 2, "a", 4, 2))

    def test_grant_with_results_and_attempts(self):
        store = done(taken(BOOK, 9), "a", 6)
        granted = ("granted", 1, "b", 2, 7, 1, (("a", 6),))
        self.assert_written(store, ("grant", 1, "b", 2, 7), granted, fence=2, holds={"b": (2, 7, 1, 4, 9)})
        store = failed(taken(BOOK, 9), "a")
        granted = ("granted", 1, "a", 2, 1, 2, ())
        store = self.assert_written(store, ("grant", 1, "a", 2, 1), granted, fence=2, holds={"a": (2, 1, 2, 4, 9)})
        store = heard(store, ("free", 1, "a", 2))
        self.assert_written(store, ("grant", 1, "a", 9, 0), ("granted", 1, "a", 9, 0, 2, ()), fence=9, holds={"a": (9, 0, 2, 6, 9)})

    def test_grant_of_a_fence_that_is_not_greater(self):
        store = heard(held(BOOK, "a"), ("free", 1, "a", 1), ("grant", 1, "a", 5, 0), ("free", 1, "a", 5))
        self.assert_no(store, *[("grant", 1, "a", fence, 0) for fence in (1, 4, 5)])
        self.assert_written(store, ("grant", 1, "a", 6, 0), ("granted", 1, "a", 6, 0, 1, ()), fence=6, holds={"a": (6, 0, 1, 6, 9)})

    def test_grant_that_is_barred(self):
        self.assert_no(taken(BOOK), ("grant", 1, "z", 1, 0), ("grant", 1, "b", 1, 0), ("grant", 1, "c", 1, 0))
        self.assert_no(taken(BOOK, 9), ("grant", 1, "b", 1, 0))
        self.assert_no(done(taken(BOOK), "a"), ("grant", 1, "a", 1, 0), ("grant", 1, "a", 2, 0))
        told = book(job("a", uses=PEN), job("b", uses=PEN), things=PEN)
        self.assert_no(held(told, "a"), ("grant", 1, "b", 2, 1))

    def test_one_machine_may_hold_several(self):
        told = book(job("a"), job("b"))
        self.assertEqual(held(told, "a", "b")["holds"], {"a": (1, 0, 1, 2, 9), "b": (2, 0, 1, 3, 9)})

    def test_free(self):
        store = ticked(held(BOOK, "a"))
        now = self.assert_written(store, ("free", 1, "a", 1), ("freed", 1, "a", 1), holds={}, freed=((1, "a", 0, 1, 2, 9, 3),))
        now = heard(now, ("grant", 1, "a", 6, 2))
        for letter in (("free", 1, "a", 1), ("free", 1, "a", 5), ("free", 1, "b", 6), ("free", 1, "b", 1), ("free", 1, "z", 6), ("free", 1, "pen", 3)):
            self.assert_same(now, letter, ("freed",) + letter[1:])
        self.assert_no(now, ("free", 1, "a", 7), ("free", 1, "b", 7), ("free", 1, "z", 10 ** 59), ("free", 2, "a", 6))
        later = heard(now, ("take", 8))
        self.assert_written(later, ("free", 8, "a", 6), ("freed", 8, "a", 6), holds={},
                            freed=((1, "a", 0, 1, 2, 9, 3), (6, "a", 2, 1, 4, 10, 6)))
        self.assert_no(taken(BOOK), ("free", 1, "a", 1))

    def test_bar(self):
        store = failed(failed(taken(BOOK), "a"), "a")
        barred = self.assert_written(store, ("bar", 1, "b", "a"), ("barred", 1, "b"), barred={"b": "a"})
        later = done(barred, "c")
        self.assert_same(later, ("bar", 1, "b", "a"), ("barred", 1, "b"))
        self.assert_written(later, ("bar", 1, "d", "b"), ("barred", 1, "d"), barred={"b": "a", "d": "b"})
        self.assert_no(later, ("bar", 1, "b", "b"), ("bar", 1, "b", "z"), ("bar", 1, "d", "c"), ("bar", 1, "d", "a"), ("bar", 2, "d", "b"))
        self.assert_no(store, ("bar", 1, "c", "a"), ("bar", 1, "a", "b"), ("bar", 1, "z", "a"), ("bar", 1, "z", "z"), ("bar", 1, "d", "b"))
        self.assert_no(taken(BOOK), ("bar", 1, "b", "a"))
        self.assert_no(done(taken(BOOK), "a"), ("bar", 1, "b", "a"))

    def test_end(self):
        store = ticked(held(BOOK, "a"))
        for outcome, end in ((("done", 5), ("done", 1, 2, 9, 3, 5)), (("done", None), ("done", 1, 2, 9, 3, None)),
                             (("done", "x"), ("done", 1, 2, 9, 3, "x")), (("failed",), ("failed", 1, 2, 9, 3, None))):
            self.assert_written(store, ("end", 0, "a", 1, 1, outcome), ("ended", 0, "a", 1), holds={}, ends={"a": (end,)})

    def test_each_condition_of_an_end(self):
        store = held(book(job("a", tries=3), job("b")), "a", "b")
        for letter in (("end", 1, "a", 1, 1, ("done", 1)), ("end", 0, "a", 2, 1, ("done", 1)), ("end", 0, "a", 3, 1, ("done", 1)),
                       ("end", 0, "a", 1, 2, ("done", 1)), ("end", 0, "b", 1, 1, ("done", 1)), ("end", 0, "z", 1, 1, ("done", 1))):
            self.assert_same(store, letter, ("refused",) + letter[1:4])

    def test_an_end_whose_fence_stands(self):
        store = failed(taken(book(job("a", tries=3), job("b"))), "a")
        store = heard(store, ("grant", 1, "a", 4, 3))
        for letter in (("end", 0, "a", 1, 1, ("failed",)), ("end", 0, "a", 1, 1, ("done", 9)), ("end", 7, "a", 1, 1, ("failed",)),
                       ("end", 5, "a", 1, 99, ("done", "x")), ("end", 3, "a", 1, 2, ("done", 1))):
            self.assert_same(store, letter, ("ended",) + letter[1:4])
        self.assert_same(store, ("end", 0, "b", 1, 1, ("failed",)), ("refused", 0, "b", 1))
        store = heard(store, ("end", 3, "a", 4, 2, ("done", 1)))
        for fence in (1, 4):
            self.assert_same(store, ("end", 6, "a", fence, 1, ("failed",)), ("ended", 6, "a", fence))
        self.assert_same(store, ("end", 6, "a", 3, 1, ("failed",)), ("refused", 6, "a", 3))

    def test_an_end_of_a_hold_that_was_freed(self):
        store = heard(held(BOOK, "a"), ("free", 1, "a", 1))
        self.assert_same(store, ("end", 0, "a", 1, 1, ("done", 5)), ("refused", 0, "a", 1))
        store = heard(store, ("grant", 1, "a", 2, 0))
        self.assert_same(store, ("end", 0, "a", 1, 1, ("done", 5)), ("refused", 0, "a", 1))
        self.assert_written(store, ("end", 0, "a", 2, 1, ("done", 5)), ("ended", 0, "a", 2), holds={},
                            ends={"a": (("done", 2, 4, 9, 5, 5),)})

    def test_an_end_has_no_epoch(self):
        store = heard(held(BOOK, "a"), ("take", 7))
        self.assert_written(store, ("end", 0, "a", 1, 1, ("done", 5)), ("ended", 0, "a", 1), holds={},
                            ends={"a": (("done", 1, 2, 9, 4, 5),)})

    def test_ask(self):
        self.assert_same(taken(BOOK), ("ask", 1), ("told", 1, 1, 0, 0, (), (), ()))
        told = book(job("b", tries=2), job("c"), job("y", ("b", "x"), mode="ended"), job("x"), job("a", ("x",)))
        told = (told[0], tuple(sorted(told[1])))
        store = failed(failed(taken(told, 4), "x"), "b")
        store = failed(store, "b")
        store = heard(store, ("grant", 1, "y", 7, 3), ("grant", 1, "c", 9, 1), ("bar", 1, "a", "x"))
        due = ("told", 1, 10, 4, 9, (("c", (9, 1, 1, 9, 4)), ("y", (7, 3, 1, 8, 4))),
               (("b", (("failed", 2, 4, 4, 5, None), ("failed", 3, 6, 4, 7, None))), ("x", (("failed", 1, 2, 4, 3, None),))),
               (("a", "x"),))
        self.assert_same(store, ("ask", 1), due)
        self.assertTrue(is_letter(due))
        self.assert_no(store, ("ask", 2))


class Again(unittest.TestCase):
    def test_times(self):
        told = book(job("a", tries=3), job("b", start=7))
        # Greater, equal, less than the store's.
        records = [(2, ("take", 1)), ("tick",), (3, ("grant", 1, "a", 1, 0)), (1, ("end", 0, "a", 1, 1, ("failed",))), ("tick",),
                   (9, ("grant", 1, "b", 2, 1))]
        store = store_again(told, records)
        self.assertEqual(store["time"], 9)
        self.assertEqual(store["ends"], {"a": (("failed", 1, 2, 3, 3, None),)})
        self.assertEqual(store["holds"], {"b": (2, 1, 1, 4, 9)})
        self.assertEqual([store_again(told, records[:k])["time"] for k in range(7)], [0, 2, 3, 3, 3, 4, 9])
        self.assertEqual(store_again(told, [("tick",)] * 5), after_ticks(new_store(told), 5))
        self.assertEqual(store_again(told, []), new_store(told))
        self.assertEqual(store_again(told, tuple(records)), store)

    def test_a_letter_that_changes_nothing_brings_its_time(self):
        told = book(job("a"))
        self.assertEqual(store_again(told, [(5, ("ask", 1))]), dict(new_store(told), time=5))

    def test_long_runs(self):
        chance = random.Random(101)
        for _ in range(15):
            told = store_book(chance, chance.randint(1, 8))
            rows, store, records, stores = Rows(told), new_store(told), [], []
            for _ in range(120):
                if chance.randrange(6) == 0:
                    rows.time += 1
                    store = ticked(store)
                    records.append(("tick",))
                else:
                    letter = random_letter(chance, rows)
                    rows.hear(letter)
                    now = store_hears(store, letter)[0]
                    if now["moment"] == store["moment"]:
                        continue
                    records.append((store["time"], letter))
                    store = now
                stores.append(store)
            for k in range(0, len(records) + 1, 7):
                self.assertEqual(store_again(told, records[:k]), stores[k - 1] if k else new_store(told))
            self.assertEqual(store_again(told, records), store)
            # The ticks may be left out, as the letters bring the times.
            bare = [record for record in records if record != ("tick",)]
            self.assertEqual(dict(store_again(told, bare), time=0), dict(store, time=0))


class ForAllRows(unittest.TestCase):
    """[7.6], and each function against the rows of what was written."""

    def test_by_chance(self):
        chance = random.Random(102)
        words = {}
        for _ in range(150):
            told = store_book(chance, chance.randint(1, 7))
            rows, store = Rows(told), new_store(told)
            heard_so_far = []
            for _ in range(90):
                if chance.randrange(8) == 0:
                    rows.time += 1
                    before, store = store, ticked(store)
                    self.assertEqual(store, dict(before, time=before["time"] + 1))
                    continue
                old = heard_so_far and chance.randrange(6) == 0
                letter = chance.choice(heard_so_far) if old else random_letter(chance, rows)
                heard_so_far.append(letter)
                before = store
                store, answers = store_hears(store, letter)
                self.assertEqual(answers, (rows.hear(letter),))
                self.assertEqual(store, rows.fields())
                self.assertTrue(is_letter(answers[0]))
                words[answers[0][0]] = words.get(answers[0][0], 0) + 1
                self.assertEqual(store_hears(store, letter), (store, answers))
                self.assert_step(before, store, letter)
                self.assert_told(store, rows)
        self.assertGreater(min(words.get(word, 0) for word in "taken granted freed barred no told ended refused".split()), 80)

    def assert_step(self, before, store, letter):
        if letter[0] != "end" and letter[1] < before["epoch"]:
            self.assertEqual(store, before)
        for name in (each[0] for each in store["book"][1]):
            if has_ended(before, name):
                self.assertEqual(outcome_in(store, name), outcome_in(before, name))
                self.assertEqual(before["ends"].get(name), store["ends"].get(name))
                self.assertNotIn(name, store["holds"])
            if name in store["holds"] and name not in before["holds"]:
                fence = store["holds"][name][0]
                self.assertGreater(fence, before["fence"])
                self.assertEqual(store["fence"], fence)
        self.assertTrue(all(units >= 0 for _, units in free_units(store)))

    def assert_told(self, store, rows):
        self.assertEqual(free_units(store), rows.free())
        self.assertEqual(still_open(store), tuple(name for name in rows.jobs if rows.outcome(name) is None))
        self.assertEqual(bars_grant(store, "none"), ("job",))
        for name in rows.jobs:
            self.assertEqual(outcome_in(store, name), rows.outcome(name))
            self.assertEqual(has_ended(store, name), rows.outcome(name) is not None)
            self.assertEqual(results_in(store, name), rows.results(name))
            self.assertEqual(attempt_in(store, name), rows.attempt(name))
            self.assertEqual(bars_grant(store, name), rows.bars(name))
            self.assertEqual(bar_need(store, name), rows.bar_need(name))

    def test_equal_results_ever_after_and_the_plain_meaning(self):
        chance = random.Random(103)
        ended = 0
        for _ in range(100):
            told = store_book(chance, chance.randint(1, 6))
            rows, store, due = Rows(told), new_store(told), dict(outcomes(told))
            at_grant = {}
            for _ in range(90):
                if chance.randrange(8) == 0:
                    rows.time += 1
                    store = ticked(store)
                    continue
                letter = random_letter(chance, rows, True)
                # What would end an attempt otherwise than the book means it is left out.
                if letter[0] == "end" and letter[2] not in rows.holds():
                    letter = letter[:5] + (("failed",),)
                rows.hear(letter)
                store, answers = store_hears(store, letter)
                if answers[0][0] == "granted":
                    at_grant[answers[0][2]] = answers[0][6]
                for name, results in at_grant.items():
                    self.assertEqual(results_in(store, name), results)
            for name in due:
                if has_ended(store, name):
                    ended += 1
                    self.assertEqual(outcome_in(store, name), due[name])
        self.assertGreater(ended, 150)


class Bounds(unittest.TestCase):
    """[7.7]"""

    def test_names_and_numbers_of_any_kind(self):
        big = 10 ** 59
        store = heard(new_store(WEB), ("take", big), ("grant", big, "a", big, 7))
        self.assertEqual(store["holds"], {"a": (big, 7, 1, 2, 0)})
        for letter in (("end", 7, "a", big, big, ("failed",)), ("end", 0, "abcdefgh", 1, 1, ("done", 10 ** 4000)),
                       ("free", big, "zzzzzzzz", 2 * big), ("grant", big, "zzzzzzzz", 2 * big, 0), ("bar", big, "a", "zzzzzzzz")):
            self.assertEqual(store_hears(store, letter)[0], store)
        store = heard(store, ("end", 7, "a", big, 1, ("done", 10 ** 4000)))
        self.assertEqual(results_in(store, "b"), (("a", 10 ** 4000),))

    def test_two_thousand_records(self):
        told = book(*[job("j" + chr(97 + k // 26) + chr(97 + k % 26), tries=5) for k in range(40)], things=PEN)
        records = [(0, ("take", 1))]
        for k in range(1000):
            name = told[1][k % 40][0]
            records += [(k, ("grant", 1, name, k + 1, k % 8)), (k, ("free", 1, name, k + 1))]
        store = store_again(told, records)
        self.assertEqual((store["moment"], store["fence"], len(store["freed"]), store["time"]), (2001, 1000, 1000, 999))
        self.assertEqual(store["freed"][999], (1000, told[1][39][0], 7, 1, 2000, 999, 2001))
        store = store_again(told, records + [(999999999, ("grant", 1, "jaa", 5000, 0))])
        self.assertEqual(store["holds"], {"jaa": (5000, 0, 1, 2002, 999999999)})


class Keeping(unittest.TestCase):
    def test_no_store_is_modified(self):
        chance = random.Random(104)
        for _ in range(10):
            told = store_book(chance, 5)
            rows, store = Rows(told), new_store(told)
            for _ in range(60):
                letter = random_letter(chance, rows)
                rows.hear(letter)
                before = repr(store)
                now = store_hears(store, letter)[0]
                for name in rows.jobs:
                    bars_grant(store, name), bar_need(store, name), outcome_in(store, name), results_in(store, name)
                free_units(store), still_open(store), ticked(store)
                self.assertEqual(repr(store), before)
                store = now

    def test_records_are_not_modified(self):
        records = [("tick",), (4, ("take", 1)), ("tick",)]
        store_again(BOOK, records)
        self.assertEqual(records, [("tick",), (4, ("take", 1)), ("tick",)])


if __name__ == "__main__":
    unittest.main()
