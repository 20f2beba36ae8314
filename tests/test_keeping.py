"""[0.2]: no argument is modified, nothing returned is shared, equal calls give equal answers."""

import copy
import random
import unittest

from effectonce import books, commands, meaning, orders, swaying, values, webs
from effectonce.errors import JobError
from tests.samples import ODD_VALUES, WEB, job, nested, random_book

COMMAND = ("demand", ("attempt",), ("plus", ("result", "a"), ("value", 2)))
JUDGES_OF_VALUES = (values.is_value, values.is_name, commands.is_command, books.is_job, books.is_book, books.read_command,
                    books.read_job, books.read_book, webs.judge_book, webs.need_book)


def calls_with(book):
    """All functions that take more than any value, each with fitting arguments, lists and dicts where they may stand."""
    names = list(books.names_of_jobs(book))
    one, other = names[-1], names[0]
    due = dict(meaning.outcomes(book))
    return [
        (values.rank, "a"), (values.kept_text, "a" * 30), (values.is_true, 1), (commands.names_in, COMMAND),
        (commands.size_of, COMMAND), (commands.attempt_worth, COMMAND, [("a", 1), ("b", None)], 1),
        (commands.outcome_of, COMMAND, [("a", 1)], 3), (commands.folded, ("plus", ("value", 1), ("value", 2))),
        (books.names_of_jobs, book), (books.job_of, book, one), (books.units_of, book, "cpu"), (books.command_text, COMMAND),
        (books.job_text, book[1][0]), (books.book_text, book), (books.read_book, books.book_text(book)),
        (webs.ring_of, book[1]), (webs.judge_ring, book[1], [one]), (webs.needs_of, book, one), (webs.needed_by, book, other),
        (webs.hangs_on, book, one), (webs.hung_on, book, other), (webs.way, book, one, other),
        (webs.judge_way, book, one, other, [one, [other]]), (orders.ranks, book), (orders.in_order, book),
        (orders.judge_order, book, names), (orders.judge_order, book, orders.in_order(book)), (orders.widest, book),
        (orders.narrowest, book), (orders.judge_chains, book, orders.narrowest(book)), (orders.judge_chains, book, [names]),
        (orders.closed, book, names[::-1]), (orders.only, book, names[1:]), (orders.without, book, other),
        (orders.with_job, book, job("zzzzzzzz")), (orders.with_job, book, job("zzzzzzzz", ("zzzzzzzz",))), (orders.lots, book),
        (orders.renamed, book, {name: "x" + chr(97 + k) for k, name in enumerate(names[::-1])}),
        (meaning.outcomes, book), (meaning.outcome_due, book, one), (meaning.results_due, book, one), (meaning.tries_of, book, one),
        (meaning.judge_outcomes, book, [[name, due[name]] for name in names]), (meaning.judge_outcomes, book, tuple(sorted(due.items()))),
        (meaning.why, book, one), (meaning.judge_why, book, names), (meaning.blamed, book, other), (swaying.looked_at, book, one),
        (swaying.truly_hangs, book, one), (swaying.changed, book, book), (swaying.with_command, book, other, ("attempt",)),
        (swaying.swayed, book, other, ("attempt",)), (swaying.sure, book, {}), (swaying.sure, book, dict(list(due.items())[::2])),
        (swaying.rounds_of, book)]


def answer(call):
    """What a call returns, or the error that it raises, as a value."""
    try:
        return ("returns", call[0](*call[1:]))
    except JobError as error:
        return ("raises", error.__class__.__name__, vars(error))


def lists_in(value):
    """The lists and dicts in a value."""
    found = [value] if isinstance(value, (list, dict)) else []
    members = list(value.values()) if isinstance(value, dict) else value if isinstance(value, (list, tuple)) else []
    return found + [each for member in members for each in lists_in(member)]


class Keeping(unittest.TestCase):
    def calls(self):
        chance = random.Random(51)
        books_here = [WEB] + [random_book(chance, many) for many in (1, 5, 12)]
        calls = [call for book in books_here for call in calls_with(book)]
        odd = ODD_VALUES + ([list(WEB)], (WEB[0], [WEB[1]]), [nested(13, {"a": []})])
        return calls + [(judge, value) for judge in JUDGES_OF_VALUES for value in odd]

    def test_no_argument_is_modified(self):
        for call in self.calls():
            before = copy.deepcopy(call[1:])
            answer(call)
            self.assertEqual(repr(call[1:]), repr(before), call[0])

    def test_nothing_that_is_returned_is_shared(self):
        for call in self.calls():
            got = answer(call)
            passed = [id(each) for each in lists_in(call[1:])]
            for each in lists_in(got[1:]):
                self.assertNotIn(id(each), passed)
            due = copy.deepcopy(got)
            for each in lists_in(got[1:]):
                each.clear()
            self.assertEqual(answer(call), due, call[0])

    def test_equal_calls_give_equal_answers(self):
        for call in self.calls():
            self.assertEqual(answer(call), answer((call[0],) + copy.deepcopy(call[1:])))

    def test_only_chains_are_lists(self):
        for call in self.calls():
            if call[0] != orders.narrowest:
                self.assertEqual([each for each in lists_in(answer(call)[1]) if answer(call)[0] == "returns"], [])

    def test_answers_are_yes_and_no(self):
        for judge in (values.is_value, values.is_name, commands.is_command, books.is_job, books.is_book):
            for value in ODD_VALUES + (WEB, WEB[1][0], COMMAND):
                self.assertIn(repr(judge(value)), ("True", "False"))


if __name__ == "__main__":
    unittest.main()
