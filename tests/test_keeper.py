"""Part 9, what a keeper knows, does, hears and tells again, point by point."""

import unittest

from effectonce.keeper import (bars_now, grants_now, idle_machines, keeper_again, keeper_back, keeper_does, keeper_hears, keeper_lapses,
                               known_free, known_outcome, known_results, new_keeper)
from effectonce.letters import is_letter
from tests.samples import book, job

FIELDS = ["book", "machines", "epoch", "phase", "moment", "time", "fence", "holds", "ends", "barred", "open"]
PEN, SAW = (("pen", 1),), (("saw", 1),)
ASK = ("ask", 1)
# a and b begin at once; c waits for both being done, d for any end of both; e waits for c.
BOOK = book(job("a", tries=2, uses=PEN), job("b", uses=SAW), job("c", ("a", "b")), job("d", ("a", "b"), mode="ended"), job("e", ("c",)),
            things=(("pen", 2), ("saw", 1)))


def done(fence, value=5):
    return ("done", fence, 1, 0, 2, value)


def failed(fence):
    return ("failed", fence, 1, 0, 2, None)


A_DONE, B_DONE = ("a", (done(1, 6),)), ("b", (done(2, "x"),))
A_FAILED, B_FAILED = ("a", (failed(1), failed(3))), ("b", (failed(2),))
ENDED = (A_DONE, B_FAILED)


def told_letter(epoch=1, moment=50, time=9, fence=20, holds=(), ends=(), barred=()):
    letter = ("told", epoch, moment, time, fence, tuple((name, hold + (0, 0)) for name, hold in holds), tuple(ends), tuple(barred))
    if not is_letter(letter):
        raise AssertionError(letter)
    return letter


def asking(told=BOOK, machines=3, epoch=1):
    """A keeper in the phase "ask"."""
    return keeper_hears(new_keeper(told, machines, epoch), ("taken", epoch))[0]


def running(told=BOOK, machines=3, **known):
    """A keeper in the phase "run" that knows this, and asks nothing."""
    return keeper_hears(asking(told, machines), told_letter(**known))[0]


def heard(keeper, *letters):
    for letter in letters:
        keeper = keeper_hears(keeper, letter)[0]
    return keeper


def with_open(keeper, *letters):
    return dict(keeper, open=keeper["open"] + letters)


class Test(unittest.TestCase):
    def assert_nothing(self, keeper, *letters):
        for letter in letters:
            self.assertEqual(keeper_hears(keeper, letter), (keeper, ()), letter)

    def assert_heard(self, keeper, letter, *letters, **fields):
        """It changes just these fields, and brings just these letters."""
        now = keeper_hears(keeper, letter)
        self.assertEqual(now, (dict(keeper, **fields), letters))
        self.assertEqual(list(now[0]), FIELDS)
        return now[0]


class Beginning(Test):
    """[9.1]"""

    def test_the_fields(self):
        for machines, epoch in ((1, 1), (8, 7), (3, 10 ** 50)):
            keeper = new_keeper(BOOK, machines, epoch)
            self.assertEqual(list(keeper), FIELDS)
            self.assertEqual(keeper, {
                "book": BOOK, "machines": machines, "epoch": epoch, "phase": "take", "moment": 0, "time": 0, "fence": 0, "holds": (),
                "ends": (), "barred": (), "open": (("take", epoch),)})

    def test_back(self):
        for last in (0, 1, 6, 10 ** 50):
            self.assertEqual(keeper_back(BOOK, 2, last), (new_keeper(BOOK, 2, last + 1), (("epoch", last + 1),), (("take", last + 1),)))


class Known(Test):
    """[9.2]"""

    def test_outcomes_at_each_stage(self):
        for lot, due in (((), None), ((failed(1),), None), ((failed(1), failed(3)), "failed"), ((done(1),), "done"), ((failed(1), done(3)), "done")):
            keeper = running(ends=[("a", lot)] if lot else ())
            self.assertEqual(known_outcome(keeper, "a"), due)
        keeper = running(ends=(A_FAILED,), barred=(("c", "a"),))
        self.assertEqual([known_outcome(keeper, name) for name in "abcde"], ["failed", None, "barred", None, None])
        self.assertIsNone(known_outcome(running(holds=(("a", (3, 0, 1)),)), "a"))
        for keeper in (new_keeper(BOOK, 2, 1), asking()):
            self.assertEqual([known_outcome(keeper, name) for name in "abcde"], [None] * 5)

    def test_results(self):
        self.assertEqual(known_results(running(), "c"), (("a", None), ("b", None)))
        self.assertEqual(known_results(running(ends=(A_DONE, B_DONE)), "c"), (("a", 6), ("b", "x")))
        self.assertEqual(known_results(running(ends=(A_DONE, B_DONE)), "a"), ())
        self.assertEqual(known_results(running(ends=ENDED), "d"), (("a", 6), ("b", None)))
        self.assertEqual(known_results(running(ends=(("a", (failed(1),)), B_DONE)), "d"), (("a", None), ("b", "x")))
        self.assertEqual(known_results(running(ends=(("a", (failed(1), done(4, None))),)), "d"), (("a", None), ("b", None)))
        self.assertEqual(known_results(running(ends=(A_FAILED,), barred=(("c", "a"),)), "e"), (("c", None),))

    def test_free_units(self):
        told = book(job("a", uses=(("pen", 2), ("saw", 1))), job("b", uses=(("saw", 3),)), job("c", uses=PEN), job("d"),
                    things=(("axe", 0), ("pen", 3), ("saw", 4)))
        for holds, grants, due in (("", "", (3, 4)), ("a", "", (1, 3)), ("", "a", (1, 3)), ("ab", "", (1, 0)), ("a", "b", (1, 0)), ("d", "c", (2, 4)),
                                   ("a", "a", (1, 3)), ("ab", "bc", (0, 0))):
            keeper = running(told, 5, holds=[(name, (k + 1, k, 1)) for k, name in enumerate(holds)])
            keeper = with_open(keeper, *[("grant", 1, name, 30 + k, 4 - k) for k, name in enumerate(grants)])
            self.assertEqual(known_free(keeper), (("axe", 0), ("pen", due[0]), ("saw", due[1])))
        # Letters of other kinds hold nothing.
        self.assertEqual(known_free(with_open(running(told), ("free", 1, "a", 9), ("bar", 1, "b", "a"), ASK)), (("axe", 0), ("pen", 3), ("saw", 4)))
        self.assertEqual(known_free(running(book(job("a")))), ())

    def test_idle_machines(self):
        self.assertEqual(idle_machines(running(machines=4)), (0, 1, 2, 3))
        self.assertEqual(idle_machines(running(machines=4, holds=(("a", (3, 2, 1)), ("b", (4, 0, 1))))), (1, 3))
        keeper = running(machines=4, holds=(("a", (3, 2, 1)),))
        self.assertEqual(idle_machines(with_open(keeper, ("grant", 1, "b", 21, 0), ("free", 1, "a", 3), ASK)), (1, 3))
        self.assertEqual(idle_machines(with_open(keeper, ("grant", 1, "a", 21, 2))), (0, 1, 3))
        self.assertEqual(idle_machines(with_open(keeper, ("grant", 1, "a", 21, 3), ("grant", 1, "b", 22, 0), ("grant", 1, "d", 23, 1))), ())
        self.assertEqual(idle_machines(new_keeper(BOOK, 1, 1)), (0,))


def granted_names(keeper):
    return [letter[2] for letter in grants_now(keeper)]


def barred_names(keeper):
    return [letter[2] for letter in bars_now(keeper)]


class Ready(Test):
    """[9.3]: each condition alone."""

    def test_ready(self):
        self.assertEqual(granted_names(running()), ["a", "b"])
        self.assertEqual(granted_names(running(ends=(A_DONE, B_DONE))), ["c", "d"])

    def test_an_outcome_is_known(self):
        self.assertEqual(granted_names(running(ends=(A_DONE,))), ["b"])
        self.assertEqual(granted_names(running(ends=(A_FAILED,))), ["b"])
        # Failed once, and to be tried once more.
        self.assertEqual(granted_names(running(ends=(("a", (failed(1),)),))), ["a", "b"])
        told = book(job("a"), job("b", ("a",)), job("c", ("b",), mode="ended"))
        self.assertEqual(granted_names(running(told, ends=(("a", (failed(1),)),), barred=(("b", "a"),))), ["c"])

    def test_it_is_held(self):
        self.assertEqual(granted_names(running(holds=(("a", (3, 1, 1)),))), ["b"])

    def test_something_is_asked_about_it(self):
        for letter in (("grant", 1, "a", 21, 2), ("free", 1, "a", 3), ("bar", 1, "a", "b")):
            self.assertEqual(granted_names(with_open(running(), letter)), ["b"])
            self.assertEqual(granted_names(with_open(running(), letter[:2] + ("z",) + letter[3:])), ["a", "b"])

    def test_starts(self):
        told = book(job("a", start=10), job("b", start=9), job("c", start=8))
        self.assertEqual(granted_names(running(told, time=9)), ["b", "c"])
        self.assertEqual(granted_names(running(told, time=10)), ["a", "b", "c"])
        self.assertEqual(granted_names(running(told, time=7)), [])

    def test_needs_in_both_modes(self):
        for ends, due in (((), ["a", "b"]), ((A_DONE,), ["b"]), ((A_DONE, B_DONE), ["c", "d"]), ((A_DONE, B_FAILED), ["d"]),
                          ((A_FAILED, B_FAILED), ["d"]), ((A_FAILED, B_DONE), ["d"]), ((("a", (failed(1),)), B_DONE), ["a"])):
            self.assertEqual(granted_names(running(ends=ends)), due)
        told = book(job("a"), job("b", ("a",)), job("c", ("a", "b"), mode="ended"), job("d", ("b",)))
        self.assertEqual(granted_names(running(told, ends=(("a", (failed(1),)),))), [])
        self.assertEqual(granted_names(running(told, ends=(("a", (failed(1),)),), barred=(("b", "a"),))), ["c"])


class Bars(Test):
    """[9.3]: what can be barred."""

    TOLD = book(job("a", tries=2), job("b"), job("c"), job("x", ("a", "b", "c")), job("y", ("a", "b", "c"), mode="ended"), job("z", ("x",)))
    C_FAILED = ("c", (failed(7),))

    def bars(self, ends, barred=(), *letters, **known):
        return bars_now(with_open(running(self.TOLD, ends=ends, barred=barred, **known), *letters))

    def test_by_the_first_need_that_is_not_done(self):
        self.assertEqual(self.bars((A_FAILED,)), (("bar", 1, "x", "a"),))
        self.assertEqual(self.bars((A_DONE, B_FAILED)), (("bar", 1, "x", "b"),))
        self.assertEqual(self.bars((A_DONE, B_DONE, self.C_FAILED)), (("bar", 1, "x", "c"),))
        self.assertEqual(self.bars((A_FAILED, B_FAILED)), (("bar", 1, "x", "a"),))

    def test_a_lesser_need_is_not_known(self):
        self.assertEqual(self.bars((B_FAILED,)), ())
        self.assertEqual(self.bars((A_DONE, self.C_FAILED)), ())
        self.assertEqual(self.bars((("a", (failed(1),)), B_FAILED)), ())

    def test_nothing_has_failed(self):
        self.assertEqual(self.bars(()), ())
        self.assertEqual(self.bars((A_DONE, B_DONE)), ())
        self.assertEqual(self.bars((A_DONE, B_DONE, ("c", (done(7),)))), ())

    def test_its_mode(self):
        told = book(job("a"), job("x", ("a",), mode="ended"))
        self.assertEqual(bars_now(running(told, ends=(("a", (failed(1),)),))), ())

    def test_an_outcome_is_known(self):
        self.assertEqual(self.bars((A_FAILED,), (("x", "a"),)), (("bar", 1, "z", "x"),))
        self.assertEqual(self.bars((A_FAILED,), (("x", "a"), ("z", "x"))), ())

    def test_it_is_held(self):
        self.assertEqual(self.bars((A_FAILED,), holds=(("x", (4, 1, 1)),)), ())

    def test_something_is_asked_about_it(self):
        for letter in (("grant", 1, "x", 21, 2), ("free", 1, "x", 3), ("bar", 1, "x", "a"), ("bar", 1, "x", "b")):
            self.assertEqual(self.bars((A_FAILED,), (), letter), ())
            self.assertEqual(self.bars((A_FAILED,), (), letter[:2] + ("y",) + letter[3:]), (("bar", 1, "x", "a"),))

    def test_by_names(self):
        told = book(job("a"), job("b", ("a",), urgency=1), job("c", ("a",), urgency=50), job("d", ("a",), urgency=9))
        self.assertEqual(barred_names(running(told, ends=(("a", (failed(1),)),))), ["b", "c", "d"])


class Does(Test):
    """[9.4]"""

    def test_bars_ahead_of_grants_ahead_of_the_ask(self):
        told = book(job("a"), job("b", ("a",)), job("c"), job("d", ("a",)), job("e"))
        keeper = running(told, ends=(("a", (failed(1),)),), fence=20)
        letters = (("bar", 1, "b", "a"), ("bar", 1, "d", "a"), ("grant", 1, "c", 21, 0), ("grant", 1, "e", 22, 1), ASK)
        self.assertEqual((bars_now(keeper), grants_now(keeper)), (letters[:2], letters[2:4]))
        self.assertEqual(keeper_does(keeper), (dict(keeper, fence=22, open=letters), letters))

    def test_behind_what_is_open(self):
        keeper = with_open(running(), ("free", 1, "d", 3), ("grant", 1, "a", 19, 2))
        letters = (("grant", 1, "b", 21, 0), ASK)
        self.assertEqual(keeper_does(keeper), (dict(keeper, fence=21, open=keeper["open"] + letters), letters))

    def test_an_ask_alone(self):
        keeper = running(book(), fence=4)
        self.assertEqual(keeper_does(keeper), (dict(keeper, open=(ASK,)), (ASK,)))
        keeper = running(BOOK, 1, holds=(("a", (3, 0, 1)),))
        self.assertEqual(keeper_does(keeper)[1], (ASK,))

    def test_nothing_in_other_phases_or_while_an_ask_is_open(self):
        for keeper in (new_keeper(BOOK, 3, 1), asking(), with_open(running(), ASK), keeper_does(running())[0]):
            self.assertEqual(keeper_does(keeper), (keeper, ()))

    def test_what_it_would_ask_in_any_phase(self):
        for keeper in (new_keeper(BOOK, 3, 1), asking()):
            self.assertEqual(grants_now(keeper), (("grant", 1, "a", 1, 0), ("grant", 1, "b", 2, 1)))
            self.assertEqual(bars_now(keeper), ())
        keeper = with_open(running(ends=(A_FAILED,)), ASK)
        self.assertEqual((grants_now(keeper), bars_now(keeper)), ((("grant", 1, "b", 21, 0),), (("bar", 1, "c", "a"),)))
        keeper = keeper_does(running(ends=(A_FAILED,)))[0]
        self.assertEqual((grants_now(keeper), bars_now(keeper)), ((), ()))

    def test_job_order(self):
        # The greater urgency first, then the lesser rank, then the name.
        told = book(job("a", ("d",)), job("b"), job("c", urgency=1), job("d"), job("e", urgency=-3), job("f", ("d",), urgency=2), job("g"))
        keeper = running(told, 8, ends=(("d", (done(1),)),))
        self.assertEqual([letter[2:] for letter in grants_now(keeper)],
                         [("f", 21, 0), ("c", 22, 1), ("b", 23, 2), ("g", 24, 3), ("a", 25, 4), ("e", 26, 5)])

    def test_machines_that_are_taken_ahead(self):
        told = book(*[job(name) for name in "abcdef"])
        keeper = running(told, 5, holds=(("b", (7, 1, 1)),))
        keeper = with_open(keeper, ("grant", 1, "d", 20, 3))
        self.assertEqual([letter[2:] for letter in grants_now(keeper)], [("a", 21, 0), ("c", 22, 2), ("e", 23, 4)])
        self.assertEqual(grants_now(running(told, 1)), (("grant", 1, "a", 21, 0),))

    def test_units_that_are_taken_ahead(self):
        told = book(job("a", uses=(("pen", 2),)), job("b", uses=(("pen", 2),)), job("c", uses=PEN), job("d", uses=(("pen", 1), ("saw", 2))),
                    job("e", uses=SAW), things=(("pen", 3), ("saw", 2)))
        # b finds one pen, c takes it, d finds none, and e the saws that d did not take.
        self.assertEqual([letter[2:] for letter in grants_now(running(told, 8))], [("a", 21, 0), ("c", 22, 1), ("e", 23, 2)])
        self.assertEqual(granted_names(running(told, 8, holds=(("c", (3, 0, 1)),))), ["a", "e"])
        self.assertEqual(granted_names(with_open(running(told, 8), ("grant", 1, "d", 21, 7))), ["a"])
        told = book(job("a", uses=PEN), things=(("pen", 1),))
        self.assertEqual(granted_names(running(told)), ["a"])

    def test_fences_go_on_behind_known_and_asked_ones(self):
        self.assertEqual(grants_now(running(fence=0))[0][3], 1)
        keeper = running(fence=31)
        keeper, letters = keeper_does(keeper)
        self.assertEqual([letter[3] for letter in letters[:2]], [32, 33])
        # Told less, then more, than it has asked.
        keeper = heard(keeper, told_letter(moment=51, fence=20), ("no", 1, letters[0]), ("no", 1, letters[1]), told_letter(moment=52, fence=20))
        self.assertEqual(keeper["fence"], 33)
        self.assertEqual([letter[3] for letter in grants_now(keeper)], [34, 35])
        keeper = heard(keeper, told_letter(moment=53, fence=90))
        self.assertEqual([letter[3] for letter in grants_now(keeper)], [91, 92])


class HearsOthers(Test):
    """[9.5]: letters of another epoch, of other kinds, and in phases in which they change nothing."""

    LETTERS = (("taken", 1), told_letter(), ("granted", 1, "a", 3, 0, 1, ()), ("freed", 1, "a", 3), ("barred", 1, "c"), ("no", 1, ("grant", 1, "a", 3, 0)))

    def full(self):
        """A keeper that would change by each of these letters but ("taken", ..)."""
        keeper = running(holds=(("a", (3, 0, 1)),), ends=(B_FAILED,), moment=40)
        return with_open(keeper, ("grant", 1, "a", 3, 0), ("free", 1, "a", 3), ("bar", 1, "c", "b"), ASK)

    def test_another_epoch(self):
        for epoch in (2, 3, 10 ** 50):
            for keeper in (new_keeper(BOOK, 3, 1), asking(), self.full()):
                self.assert_nothing(keeper, *[letter[:1] + (epoch,) + letter[2:] for letter in self.LETTERS])
        for keeper in (new_keeper(BOOK, 3, 4), asking(epoch=4)):
            for epoch in (1, 3, 5):
                self.assert_nothing(keeper, *[letter[:1] + (epoch,) + letter[2:] for letter in self.LETTERS])
        # Of a no its own epoch counts, not that of the letter in it.
        self.assert_nothing(self.full(), ("no", 0, ("grant", 1, "a", 3, 0)), ("no", 2, ASK))

    def test_these_letters_do_change_it(self):
        for letter in self.LETTERS[1:]:
            self.assertNotEqual(keeper_hears(self.full(), letter)[0], self.full())

    def test_other_kinds(self):
        for letter in (("ended", 1, "a", 3), ("refused", 1, "a", 3), ("ended", 0, "a", 3)):
            for keeper in (new_keeper(BOOK, 3, 1), asking(), self.full()):
                self.assert_nothing(keeper, letter)

    def test_taken(self):
        keeper = new_keeper(BOOK, 3, 6)
        keeper = self.assert_heard(keeper, ("taken", 6), ("ask", 6), phase="ask", open=(("ask", 6),))
        self.assert_nothing(keeper, ("taken", 6))
        self.assert_nothing(running(), ("taken", 1))
        self.assert_nothing(self.full(), ("taken", 1))

    def test_in_the_phases_take_and_ask(self):
        for keeper in (new_keeper(BOOK, 3, 1), asking()):
            self.assert_nothing(keeper, *self.LETTERS[2:])
        self.assert_nothing(new_keeper(BOOK, 3, 1), told_letter(), told_letter(moment=0, fence=0))


class HearsTold(Test):
    """[9.5], ("told", ..)."""

    def test_in_the_phase_ask(self):
        holds = (("a", (3, 2, 1)), ("d", (5, 0, 1)))
        letter = told_letter(moment=7, time=4, fence=6, holds=holds, ends=(B_FAILED,), barred=(("c", "b"),))
        works = (("work", 1, 2, "a", 3, 1, ()), ("work", 1, 0, "d", 5, 1, (("a", None), ("b", None))))
        self.assert_heard(asking(), letter, *works, phase="run", moment=7, time=4, fence=6, holds=holds, ends=(B_FAILED,),
                          barred=(("c", "b"),), open=())

    def test_in_the_phase_ask_of_a_store_that_has_nothing(self):
        self.assert_heard(asking(), told_letter(moment=0, time=0, fence=0), phase="run", open=())

    def test_works_with_the_results_known_then(self):
        letter = told_letter(holds=(("c", (9, 1, 1)), ("d", (8, 0, 1))), ends=(A_DONE, B_DONE), moment=51, fence=22)
        works = (("work", 1, 1, "c", 9, 1, (("a", 6), ("b", "x"))), ("work", 1, 0, "d", 8, 1, (("a", 6), ("b", "x"))))
        self.assertEqual(keeper_hears(asking(), letter)[1], works)
        keeper = with_open(running(), ("grant", 1, "c", 9, 1), ("grant", 1, "d", 8, 0), ASK)
        self.assertEqual(keeper_hears(keeper, letter)[1], works)

    def test_a_lesser_moment(self):
        for moment in (0, 49):
            for keeper in (running(), with_open(running(), ASK, ("grant", 1, "a", 3, 0))):
                self.assert_nothing(keeper, told_letter(moment=moment, time=99, fence=99, ends=(A_DONE,)))

    def test_an_equal_moment(self):
        keeper = with_open(running(time=9), ("grant", 1, "a", 3, 0), ASK, ("free", 1, "b", 2), ("bar", 1, "c", "a"))
        open_then = (("grant", 1, "a", 3, 0), ("free", 1, "b", 2), ("bar", 1, "c", "a"))
        for time, due in ((8, 9), (9, 9), (12, 12)):
            letter = told_letter(moment=50, time=time, fence=99, holds=(("d", (4, 1, 1)),), ends=(A_DONE,), barred=(("c", "a"),))
            self.assert_heard(keeper, letter, time=due, open=open_then)
        self.assert_heard(running(time=9), told_letter(time=30), time=30)

    def test_a_greater_moment(self):
        keeper = with_open(running(time=9, fence=20, ends=(("a", (failed(1),)),)), ASK)
        letter = told_letter(moment=51, time=9, fence=22, ends=(A_FAILED,), barred=(("c", "a"),))
        self.assert_heard(keeper, letter, moment=51, fence=22, ends=(A_FAILED,), barred=(("c", "a"),), open=())
        self.assert_heard(keeper, told_letter(moment=99, time=13, fence=20), moment=99, time=13, ends=(), open=())

    def test_the_fence_is_the_greater_one(self):
        keeper = keeper_does(running(fence=20))[0]
        self.assertEqual(keeper["fence"], 22)
        for fence, due in ((19, 22), (21, 22), (22, 22), (23, 23)):
            self.assertEqual(heard(keeper, told_letter(moment=60, fence=fence))["fence"], due)

    def test_barred_of_both(self):
        keeper = dict(running(ends=(A_FAILED,)), barred=(("e", "c"),))
        now = heard(keeper, told_letter(moment=60, ends=(A_FAILED,), barred=(("c", "a"),)))
        self.assertEqual(now["barred"], (("c", "a"), ("e", "c")))
        self.assertEqual(heard(keeper, told_letter(moment=60))["barred"], (("e", "c"),))

    def test_holds_that_are_told(self):
        keeper = running(holds=(("a", (3, 0, 1)),), fence=5)
        known = (("a", (3, 0, 1)),)
        # Known with this fence.
        self.assert_heard(keeper, told_letter(moment=51, fence=5, holds=known), moment=51)
        # Told and not known: given up behind it.
        self.assert_heard(keeper, told_letter(moment=51, fence=5, holds=known + (("b", (4, 1, 1)),)), moment=51)
        self.assert_heard(keeper, told_letter(moment=51, fence=6, holds=(("a", (6, 0, 1)),)), moment=51, fence=6, holds=())
        # Granted as it was asked, by the fence: and then a work goes out.
        asked = with_open(keeper, ("grant", 1, "b", 6, 1))
        now = self.assert_heard(asked, told_letter(moment=51, fence=6, holds=known + (("b", (6, 1, 2)),)), ("work", 1, 1, "b", 6, 2, ()),
                                moment=51, fence=6, holds=known + (("b", (6, 1, 2)),), open=())
        self.assertEqual(now["fence"], 6)
        # A grant of another job, or with another fence, that is open does not count.
        for other in (("grant", 1, "d", 6, 1), ("grant", 1, "b", 7, 1)):
            now = heard(with_open(keeper, other), told_letter(moment=51, fence=6, holds=known + (("b", (6, 1, 2)),)))
            self.assertEqual(now["holds"], known)

    def test_holds_that_are_known_and_not_told(self):
        keeper = heard(with_open(running(fence=20), ("grant", 1, "a", 22, 1)), ("granted", 1, "a", 22, 1, 1, ()))
        self.assertEqual(keeper["holds"], (("a", (22, 1, 1)),))
        # Granted behind what is told.
        for fence in (20, 21):
            self.assertEqual(heard(keeper, told_letter(moment=51, fence=fence))["holds"], keeper["holds"])
        # Given up, or ended, ahead of it.
        for fence in (22, 23):
            self.assertEqual(heard(keeper, told_letter(moment=51, fence=fence))["holds"], ())
        # What is told beside was given up behind it.
        now = keeper_hears(keeper, told_letter(moment=51, fence=21, holds=(("a", (21, 0, 1)),)))
        self.assertEqual((now[0]["holds"], now[1]), (keeper["holds"], ()))
        now = keeper_hears(keeper, told_letter(moment=51, fence=22, holds=(("a", (21, 0, 1)),)))
        self.assertEqual((now[0]["holds"], now[1]), ((), ()))

    def test_holds_whose_job_is_known_as_ended_then(self):
        keeper = heard(with_open(running(fence=20), ("grant", 1, "a", 22, 1)), ("granted", 1, "a", 22, 1, 1, ()))
        self.assertEqual(heard(keeper, told_letter(moment=51, fence=21, ends=(A_DONE,)))["holds"], ())
        self.assertEqual(heard(keeper, told_letter(moment=51, fence=21, ends=(A_FAILED,)))["holds"], ())
        self.assertEqual(heard(keeper, told_letter(moment=51, fence=21, ends=(("a", (failed(1),)),)))["holds"], keeper["holds"])
        self.assertEqual(heard(dict(keeper, barred=(("a", "z"),)), told_letter(moment=51, fence=21))["holds"], ())
        self.assertEqual(heard(keeper, told_letter(moment=51, fence=21, barred=(("a", "z"),)))["holds"], ())

    def test_a_told_grant_in_the_place_of_a_known_hold(self):
        keeper = with_open(running(holds=(("a", (3, 0, 1)),), fence=20), ("grant", 1, "a", 21, 2))
        now, letters = keeper_hears(keeper, told_letter(moment=51, fence=21, holds=(("a", (21, 2, 2)),)))
        self.assertEqual((now["holds"], letters), ((("a", (21, 2, 2)),), (("work", 1, 2, "a", 21, 2, ()),)))
        # What is taken so stands, also where a greater fence was known.
        keeper = with_open(running(holds=(("a", (22, 0, 1)),), fence=20), ("grant", 1, "a", 21, 2))
        now, letters = keeper_hears(keeper, told_letter(moment=51, fence=21, holds=(("a", (21, 2, 2)),)))
        self.assertEqual((now["holds"], letters), ((("a", (21, 2, 2)),), (("work", 1, 2, "a", 21, 2, ()),)))

    def test_holds_ascend(self):
        keeper = heard(with_open(running(holds=(("b", (3, 0, 1)),), fence=20), ("grant", 1, "d", 22, 1), ("grant", 1, "a", 23, 2)),
                       ("granted", 1, "d", 22, 1, 1, (("a", 6), ("b", None))), ("granted", 1, "a", 23, 2, 1, ()))
        self.assertEqual([name for name, _ in keeper["holds"]], ["a", "b", "d"])
        keeper = heard(keeper, told_letter(moment=51, fence=20, holds=(("b", (3, 0, 1)),)))
        self.assertEqual([name for name, _ in keeper["holds"]], ["a", "b", "d"])

    def test_open_grants(self):
        grants = tuple(("grant", 1, name, fence, m) for m, (name, fence) in enumerate((("a", 21), ("b", 22), ("d", 23))))
        keeper = with_open(running(fence=23), *grants, ASK)
        for fence, many in ((20, 3), (21, 2), (22, 1), (23, 0), (24, 0)):
            self.assertEqual(heard(keeper, told_letter(moment=51, fence=fence))["open"], grants[3 - many:])

    def test_open_frees(self):
        keeper = with_open(running(holds=(("a", (3, 0, 1)), ("b", (4, 1, 1)))), ("free", 1, "a", 3), ("free", 1, "b", 4), ("free", 1, "d", 2), ASK)
        now = heard(keeper, told_letter(moment=51, holds=(("a", (3, 0, 1)),)))
        self.assertEqual((now["open"], now["holds"]), ((("free", 1, "a", 3),), (("a", (3, 0, 1)),)))
        now = heard(with_open(keeper, ("grant", 1, "b", 21, 1)), told_letter(moment=51, fence=21, holds=(("a", (3, 0, 1)), ("b", (21, 1, 2)))))
        self.assertEqual(now["open"], (("free", 1, "a", 3),))

    def test_open_bars(self):
        keeper = with_open(running(ends=(A_FAILED,)), ("bar", 1, "c", "a"), ("bar", 1, "e", "c"), ASK)
        now = heard(keeper, told_letter(moment=51, ends=(A_FAILED,), barred=(("c", "a"),)))
        self.assertEqual(now["open"], (("bar", 1, "e", "c"),))
        self.assertEqual(heard(keeper, told_letter(moment=51, ends=(A_FAILED,)))["open"], keeper["open"][:2])

    def test_works_for_what_was_not_known_alone(self):
        keeper = with_open(running(holds=(("b", (3, 0, 1)),), fence=20), ("grant", 1, "d", 21, 1), ("grant", 1, "a", 22, 2))
        letter = told_letter(moment=51, fence=22, ends=(), holds=(("a", (22, 2, 1)), ("b", (3, 0, 1)), ("d", (21, 1, 1))))
        self.assertEqual([work[3] for work in keeper_hears(keeper, letter)[1]], ["a", "d"])
        self.assertEqual(keeper_hears(heard(keeper, letter), letter)[1], ())


class HearsAnswers(Test):
    """[9.5], granted, freed, barred and no."""

    def test_granted(self):
        keeper = with_open(running(), ("free", 1, "b", 2), ("grant", 1, "a", 21, 2), ASK)
        letter = ("granted", 1, "a", 21, 2, 2, (("k", "v"),))
        now = self.assert_heard(keeper, letter, ("work", 1, 2, "a", 21, 2, (("k", "v"),)), holds=(("a", (21, 2, 2)),),
                                open=(("free", 1, "b", 2), ASK))
        self.assert_nothing(now, letter)

    def test_granted_in_the_place_of_another_hold(self):
        keeper = with_open(running(holds=(("a", (3, 0, 1)), ("b", (4, 1, 1)))), ("grant", 1, "a", 21, 2))
        now = heard(keeper, ("granted", 1, "a", 21, 2, 1, ()))
        self.assertEqual(now["holds"], (("a", (21, 2, 1)), ("b", (4, 1, 1))))

    def test_granted_that_was_not_asked_so(self):
        keeper = with_open(running(), ("grant", 1, "a", 21, 2))
        self.assert_nothing(keeper, *[("granted", 1) + parts + (1, ()) for parts in (("b", 21, 2), ("a", 22, 2), ("a", 20, 2), ("a", 21, 1))])
        self.assert_nothing(running(), ("granted", 1, "a", 21, 2, 1, ()))

    def test_freed(self):
        keeper = with_open(running(holds=(("a", (3, 0, 1)), ("b", (4, 1, 1)))), ("free", 1, "a", 3), ("free", 1, "b", 4))
        self.assert_heard(keeper, ("freed", 1, "a", 3), ASK, holds=(("b", (4, 1, 1)),), open=(("free", 1, "b", 4), ASK))
        # While an ask is open none is put to it.
        self.assert_heard(with_open(keeper, ASK), ("freed", 1, "a", 3), holds=(("b", (4, 1, 1)),), open=(("free", 1, "b", 4), ASK))

    def test_freed_of_a_hold_or_of_a_letter_alone(self):
        keeper = with_open(running(), ("free", 1, "a", 3))
        self.assert_heard(keeper, ("freed", 1, "a", 3), ASK, open=(ASK,))
        keeper = running(holds=(("a", (3, 0, 1)),))
        self.assert_heard(keeper, ("freed", 1, "a", 3), ASK, holds=(), open=(ASK,))
        # Held anew meanwhile.
        keeper = with_open(running(holds=(("a", (8, 0, 1)),)), ("free", 1, "a", 3), ("free", 1, "a", 8))
        self.assert_heard(keeper, ("freed", 1, "a", 3), ASK, open=(("free", 1, "a", 8), ASK))

    def test_freed_that_changes_nothing(self):
        keeper = with_open(running(holds=(("a", (3, 0, 1)),)), ("free", 1, "a", 3))
        self.assert_nothing(keeper, ("freed", 1, "a", 2), ("freed", 1, "a", 4), ("freed", 1, "b", 3))
        self.assert_nothing(running(), ("freed", 1, "a", 3))

    def test_barred(self):
        keeper = with_open(running(ends=(A_FAILED,), barred=(("e", "c"),)), ("bar", 1, "c", "a"), ("bar", 1, "d", "b"))
        now = self.assert_heard(keeper, ("barred", 1, "c"), ASK, barred=(("c", "a"), ("e", "c")), open=(("bar", 1, "d", "b"), ASK))
        self.assert_nothing(now, ("barred", 1, "c"))
        self.assert_heard(with_open(keeper, ASK), ("barred", 1, "c"), barred=(("c", "a"), ("e", "c")), open=(("bar", 1, "d", "b"), ASK))
        self.assert_nothing(keeper, ("barred", 1, "e"), ("barred", 1, "a"))

    def test_no(self):
        letters = (("grant", 1, "a", 21, 2), ("free", 1, "b", 4), ("bar", 1, "c", "a"))
        keeper = with_open(running(holds=(("b", (4, 1, 1)),)), *letters)
        for k, letter in enumerate(letters):
            left = letters[:k] + letters[k + 1:]
            self.assert_heard(keeper, ("no", 1, letter), ASK, open=left + (ASK,))
            self.assert_heard(with_open(keeper, ASK), ("no", 1, letter), open=left + (ASK,))
        self.assert_nothing(keeper, ("no", 1, ("grant", 1, "a", 21, 1)), ("no", 1, ASK), ("no", 1, ("free", 1, "b", 5)), ("no", 1, ("take", 1)))
        # The ask itself: then another one is open, and sent.
        self.assert_heard(with_open(keeper, ASK), ("no", 1, ASK), ASK, open=letters + (ASK,))


class LapsesAndAgain(Test):
    """[9.6]"""

    def test_lapses(self):
        keeper = running(holds=(("a", (3, 0, 1)), ("b", (4, 1, 1))))
        free = ("free", 1, "a", 3)
        now = keeper_lapses(keeper, "a")
        self.assertEqual(now, (dict(keeper, open=(free,)), (free,)))
        # Asked already.
        self.assertEqual(keeper_lapses(now[0], "a"), (now[0], ()))
        self.assertEqual(keeper_lapses(now[0], "b")[0]["open"], (free, ("free", 1, "b", 4)))
        # A free with another fence does not count.
        asked = with_open(keeper, ("free", 1, "a", 2), ASK)
        self.assertEqual(keeper_lapses(asked, "a"), (with_open(asked, free), (free,)))

    def test_lapses_of_what_is_not_held(self):
        keeper = with_open(running(holds=(("a", (3, 0, 1)),)), ("grant", 1, "b", 21, 2))
        for name in "bcde":
            self.assertEqual(keeper_lapses(keeper, name), (keeper, ()))

    def test_lapses_in_other_phases(self):
        for keeper in (new_keeper(BOOK, 3, 1), asking(), dict(asking(), holds=(("a", (3, 0, 1)),)), dict(new_keeper(BOOK, 3, 1), holds=(("a", (3, 0, 1)),))):
            self.assertEqual(keeper_lapses(keeper, "a"), (keeper, ()))

    def test_again(self):
        self.assertEqual(keeper_again(new_keeper(BOOK, 3, 4)), (("take", 4),))
        self.assertEqual(keeper_again(asking(epoch=4)), (("ask", 4),))
        self.assertEqual(keeper_again(running()), ())
        keeper = running(holds=(("a", (3, 0, 2)), ("d", (4, 1, 1))), ends=(("a", (failed(1),)), B_DONE))
        works = (("work", 1, 0, "a", 3, 2, ()), ("work", 1, 1, "d", 4, 1, (("a", None), ("b", "x"))))
        self.assertEqual(keeper_again(keeper), works)
        letters = (("free", 1, "d", 4), ("grant", 1, "b", 21, 2), ASK)
        self.assertEqual(keeper_again(with_open(keeper, *letters)), letters + works)
        self.assertEqual(keeper_again(dict(asking(), holds=keeper["holds"])), (ASK,))


class Keeping(Test):
    def test_nothing_is_modified(self):
        keeper = with_open(running(holds=(("a", (3, 0, 1)),), ends=(B_FAILED,)), ("grant", 1, "d", 21, 2), ("free", 1, "a", 3), ("bar", 1, "c", "b"))
        before = repr(keeper)
        for letter in (("taken", 1), told_letter(moment=51), told_letter(), ("granted", 1, "d", 21, 2, 1, ()), ("freed", 1, "a", 3), ("barred", 1, "c"),
                       ("no", 1, ("grant", 1, "d", 21, 2))):
            keeper_hears(keeper, letter)
        keeper_does(keeper), keeper_lapses(keeper, "a"), keeper_again(keeper), grants_now(keeper), bars_now(keeper), idle_machines(keeper)
        known_free(keeper), known_outcome(keeper, "a"), known_results(keeper, "c")
        self.assertEqual(repr(keeper), before)


if __name__ == "__main__":
    unittest.main()
