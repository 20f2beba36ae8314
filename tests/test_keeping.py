"""[0.2]: no argument is modified, nothing returned is shared, equal calls give equal answers."""

import copy
import random
import unittest

from effectonce import (books, commands, days, disks, letters, lines, meaning, orders, plans, seals, series, store, swaying,
                        values, webs)
from effectonce.errors import JobError
from tests.letter_samples import LETTERS
from tests.plan_oracles import random_order, random_work
from tests.samples import ODD_VALUES, WEB, job, nested, random_book

COMMAND = ("demand", ("attempt",), ("plus", ("result", "a"), ("value", 2)))
JUDGES_OF_VALUES = (values.is_value, values.is_name, commands.is_command, books.is_job, books.is_book, books.read_command,
                    books.read_job, books.read_book, webs.judge_book, webs.need_book, days.is_calendar, letters.judge_letter,
                    letters.is_letter, letters.read_letter)


def calls_with(book):
    """All functions that take more than any value, each with fitting arguments, lists and dicts where they may stand."""
    names = list(books.names_of_jobs(book))
    one, other = names[-1], names[0]
    due = dict(meaning.outcomes(book))
    return [
        (values.rank, "a"), (values.kept_text, "a" * 30), (values.is_true, 1), (commands.names_in, COMMAND),
        (commands.size_of, COMMAND), (commands.attempt_worth, COMMAND, [("a", 1), ("b", None)], 1),
        (commands.outcome_of, COMMAND, [("a", 1)], 3), (commands.folded, ("plus", ("value", 1), ("value", 2))),
        (books.names_of_jobs, book), (books.job_of, book, one), (books.units_of, book, "cpu"), (books.command_text, COMMAND),
        (books.job_text, book[1][0]), (books.book_text, book), (books.read_book, books.book_text(book)),
        (webs.ring_of, book[1]), (webs.judge_ring, book[1], [one]), (webs.needs_of, book, one), (webs.needed_by, book, other),
        (webs.hangs_on, book, one), (webs.hung_on, book, other), (webs.way, book, one, other),
        (webs.judge_way, book, one, other, [one, [other]]), (orders.ranks, book), (orders.in_order, book),
        (orders.judge_order, book, names), (orders.judge_order, book, orders.in_order(book)), (orders.widest, book),
        (orders.narrowest, book), (orders.judge_chains, book, orders.narrowest(book)), (orders.judge_chains, book, [names]),
        (orders.closed, book, names[::-1]), (orders.only, book, names[1:]), (orders.without, book, other),
        (orders.with_job, book, job("zzzzzzzz")), (orders.with_job, book, job("zzzzzzzz", ("zzzzzzzz",))), (orders.lots, book),
        (orders.renamed, book, {name: "x" + chr(97 + k) for k, name in enumerate(names[::-1])}),
        (meaning.outcomes, book), (meaning.outcome_due, book, one), (meaning.results_due, book, one), (meaning.tries_of, book, one),
        (meaning.judge_outcomes, book, [[name, due[name]] for name in names]), (meaning.judge_outcomes, book, tuple(sorted(due.items()))),
        (meaning.why, book, one), (meaning.judge_why, book, names), (meaning.blamed, book, other), (swaying.looked_at, book, one),
        (swaying.truly_hangs, book, one), (swaying.changed, book, book), (swaying.with_command, book, other, ("attempt",)),
        (swaying.swayed, book, other, ("attempt",)), (swaying.sure, book, {}), (swaying.sure, book, dict(list(due.items())[::2])),
        (swaying.rounds_of, book)]


def calls_with_plans(chance):
    """All functions on plans and lines."""
    book = random_work(chance, 5)
    plan = plans.list_plan(book, 2)
    begins, line = tuple((name, begin) for name, _, begin in plan), lines.line_of(book, 2)
    near = [list(plan), list(map(list, plan)), plan[:1] + ([nested(3, {})],) + plan[2:]]
    return [
        (plans.plan_length, book, plan), (plans.dealt, book, begins), (plans.job_order, book), (plans.list_plan, book, 2),
        (plans.turn_plan, book, 2, random_order(chance, book)), (plans.least_plan, book, 2), (plans.longer_example,),
        (lines.earliest, book), (lines.longest_line, book), (lines.least_bound, book, 2), (lines.line_of, book, 2),
        (lines.line_bound, book, 2, line), (lines.judge_line, book, 2, plan, line), (lines.judge_line, book, 2, plan, list(line)),
        (lines.judge_bound, book, 2, [3, ["work"]]), (lines.judge_bound, book, 2, (9, ("line", [["a"]]))),
        (lines.judge_bound, book, 2, (10 ** 9, ("work",)))] + [(plans.judge_plan, book, 2, value) for value in [plan] + near]


def calls_with_series():
    """All functions on calendars and series."""
    calendar = ("both", ("every", 4, 2, None), ("moved", ("list", (1, 5)), 3))
    plain = days.plain_calendar(calendar)
    one = ("day", calendar, 1, ("all", ("k",), ("plus", ("last",), ("result", "k")), (), 1, 1, 0))
    some = [one, ("x", ("list", (3, 9)), 0, ("all", (), ("value", 1), (), 1, 1, 0))]
    return [
        (days.has_time, calendar, 4), (days.times_in, calendar, 0, 30), (days.next_time, calendar, 9), (days.count_times, calendar, 30),
        (days.repeats, calendar), (days.plain_calendar, calendar), (days.first_unlike, calendar, one[1]), (days.is_endless, calendar),
        (days.first_unlike, calendar, ("list", ())), (days.calendar_of, plain), (series.made_name, "day", 7), (series.made_name, "day", 17576),
        (series.made_number, "day", "dayaab"), (series.made_jobs, one, 3, 40), (series.made_book, (), (job("k"),), some, 20),
        (series.made_book, (), (), some, 20), (series.made_book, (), (job("k"), job("k")), some, 20), (series.makes, some, "xaab"),
        (series.makes, some, "xaac"), (days.is_calendar, ["every", 4, 2, None]), (days.is_calendar, ("both", [nested(3, {})], {}))]


def calls_with_letters():
    """All functions on words, seals, disks and letters."""
    words = [("tick",), (3, ("take", 1)), [1, "x"][1], (None, True)]
    disk = disks.written("", words) + "3:i1"
    bad = seals.records(["i1;", "i01;"])
    near = [("no", 1, ["take", 1]), ("told", 1, 0, 0, 0, [("a", {})], (), ()), ["take", 1], ("end", 0, "a", 1, 1, ["failed"])]
    calls = [
        (seals.word_text, (1, ("a", None))), (seals.read_word, "(i1;(t1:aN))"), (seals.read_word, "(i1;"), (seals.check_of, "ab"),
        (seals.sealed, "ab"), (seals.records, ["ab", "", "x"]), (seals.read_records, disk), (disks.words_on, disk), (disks.words_on, bad),
        (disks.mended, disk), (disks.written, disk, words), (disks.torn, disk, words, 9), (letters.unanswered, list(LETTERS), list(LETTERS[6:])),
        (letters.unanswered, list(LETTERS), [])]
    calls += [(disks.is_record, who, value) for who in ("store", "keeper", "machine") for value in near + words]
    calls += [(judge, value) for judge in (letters.judge_letter, letters.is_letter, letters.read_letter) for value in near]
    for letter in LETTERS:
        calls += [(letters.goes_to, letter), (letters.letter_text, letter), (letters.fields_of, letter), (letters.is_answer, LETTERS[1], letter)]
    return calls


def calls_with_stores():
    """All functions on stores; what is told of a store is none, but for what makes another one."""
    here = WEB
    records = [(0, ("take", 1)), ("tick",), (1, ("grant", 1, "a", 1, 0)), (1, ("end", 0, "a", 1, 1, ("done", 3)))]
    one = store.store_again(here, records)
    told = [(each, one, name) for name in "abf" for each in (store.has_ended, store.outcome_in, store.results_in, store.attempt_in,
                                                             store.bars_grant, store.bar_need)]
    return told + [(store.bars_grant, one, "z"), (store.free_units, one), (store.still_open, one)], [
        (store.new_store, here), (store.ticked, one), (store.store_again, here, records)] + [
        (store.store_hears, one, letter) for letter in LETTERS[:6] + (("grant", 1, "c", 5, 0), ("take", 2))]


def answer(call):
    """What a call returns, or the error that it raises, as a value."""
    try:
        return ("returns", call[0](*call[1:]))
    except JobError as error:
        return ("raises", error.__class__.__name__, vars(error))


def lists_in(value):
    """The lists and dicts in a value."""
    found = [value] if isinstance(value, (list, dict)) else []
    members = list(value.values()) if isinstance(value, dict) else value if isinstance(value, (list, tuple)) else []
    return found + [each for member in members for each in lists_in(member)]


class Keeping(unittest.TestCase):
    def calls(self):
        chance = random.Random(51)
        books_here = [WEB] + [random_book(chance, many) for many in (1, 5, 12)]
        calls = [call for book in books_here for call in calls_with(book)]
        calls += calls_with_plans(chance) + calls_with_plans(chance) + calls_with_series() + calls_with_letters()
        calls += calls_with_stores()[0]
        odd = ODD_VALUES + ([list(WEB)], (WEB[0], [WEB[1]]), [nested(13, {"a": []})])
        return calls + [(judge, value) for judge in JUDGES_OF_VALUES for value in odd]

    def test_no_argument_is_modified(self):
        for call in self.calls() + calls_with_stores()[1]:
            before = copy.deepcopy(call[1:])
            answer(call)
            self.assertEqual(repr(call[1:]), repr(before), call[0])

    def test_nothing_that_is_returned_is_shared(self):
        for call in self.calls():
            got = answer(call)
            passed = [id(each) for each in lists_in(call[1:])]
            for each in lists_in(got[1:]):
                self.assertNotIn(id(each), passed)
            due = copy.deepcopy(got)
            for each in lists_in(got[1:]):
                each.clear()
            self.assertEqual(answer(call), due, call[0])

    def test_a_store_that_is_returned_is_no_other(self):
        # Stores may share what they are made of, but not the fields themselves.
        for call in calls_with_stores()[1]:
            got = answer(call)[1]
            made = got[0] if isinstance(got, tuple) else got
            self.assertNotIn(id(made), [id(each) for each in call[1:]])
            if isinstance(got, tuple):
                self.assertEqual(lists_in(got[1]), [])

    def test_equal_calls_give_equal_answers(self):
        for call in self.calls() + calls_with_stores()[1]:
            self.assertEqual(answer(call), answer((call[0],) + copy.deepcopy(call[1:])))

    def test_only_chains_are_lists(self):
        for call in self.calls():
            if call[0] != orders.narrowest:
                self.assertEqual([each for each in lists_in(answer(call)[1]) if answer(call)[0] == "returns"], [])

    def test_answers_are_yes_and_no(self):
        for judge in (values.is_value, values.is_name, commands.is_command, books.is_job, books.is_book, days.is_calendar,
                      letters.is_letter, lambda value: disks.is_record("store", value)):
            for value in ODD_VALUES + (WEB, WEB[1][0], COMMAND, ("every", 1, 1, None), ("ask", 1), ("tick",), (3, ("ask", 1))):
                self.assertIn(repr(judge(value)), ("True", "False"))


if __name__ == "__main__":
    unittest.main()
