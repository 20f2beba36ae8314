"""[0.2]: no argument is modified, nothing returned is shared, equal calls give equal answers."""

import copy
import random
import unittest

from effectonce import (air, books, checker, commands, days, disks, keeper, letters, lines, machines, meaning, orders, plans, recovery, scripts, seals,
                        series, store, swaying, values, webs, world)
from effectonce.desk import Desk
from effectonce.errors import JobError
from tests.letter_samples import LETTERS
from tests.plan_oracles import random_order, random_work
from tests.samples import ODD_VALUES, WEB, job, nested, random_book
from tests.world_samples import random_event

COMMAND = ("demand", ("attempt",), ("plus", ("result", "a"), ("value", 2)))
JUDGES_OF_VALUES = (values.is_value, values.is_name, commands.is_command, books.is_job, books.is_book, books.read_command,
                    books.read_job, books.read_book, webs.judge_book, webs.need_book, days.is_calendar, letters.judge_letter,
                    letters.is_letter, letters.read_letter, scripts.read_event, scripts.read_script)


def calls_with(book):
    """All functions that take more than any value, each with fitting arguments, lists and dicts where they may stand."""
    names = list(books.names_of_jobs(book))
    one, other = names[-1], names[0]
    due = dict(meaning.outcomes(book))
    return [
        (values.rank, "a"), (values.kept_text, "a" * 30), (values.is_true, 1), (commands.names_in, COMMAND),
        (commands.size_of, COMMAND), (commands.attempt_worth, COMMAND, [("a", 1), ("b", None)], 1),
        (commands.outcome_of, COMMAND, [("a", 1)], 3), (commands.folded, ("plus", ("value", 1), ("value", 2))),
        (books.names_of_jobs, book), (books.job_of, book, one), (books.units_of, book, "cpu"), (books.command_text, COMMAND),
        (books.job_text, book[1][0]), (books.book_text, book), (books.read_book, books.book_text(book)),
        (webs.ring_of, book[1]), (webs.judge_ring, book[1], [one]), (webs.needs_of, book, one), (webs.needed_by, book, other),
        (webs.hangs_on, book, one), (webs.hung_on, book, other), (webs.way, book, one, other),
        (webs.judge_way, book, one, other, [one, [other]]), (orders.ranks, book), (orders.in_order, book),
        (orders.judge_order, book, names), (orders.judge_order, book, orders.in_order(book)), (orders.widest, book),
        (orders.narrowest, book), (orders.judge_chains, book, orders.narrowest(book)), (orders.judge_chains, book, [names]),
        (orders.closed, book, names[::-1]), (orders.only, book, names[1:]), (orders.without, book, other),
        (orders.with_job, book, job("zzzzzzzz")), (orders.with_job, book, job("zzzzzzzz", ("zzzzzzzz",))), (orders.lots, book),
        (orders.renamed, book, {name: "x" + chr(97 + k) for k, name in enumerate(names[::-1])}),
        (meaning.outcomes, book), (meaning.outcome_due, book, one), (meaning.results_due, book, one), (meaning.tries_of, book, one),
        (meaning.judge_outcomes, book, [[name, due[name]] for name in names]), (meaning.judge_outcomes, book, tuple(sorted(due.items()))),
        (meaning.why, book, one), (meaning.judge_why, book, names), (meaning.blamed, book, other), (swaying.looked_at, book, one),
        (swaying.truly_hangs, book, one), (swaying.changed, book, book), (swaying.with_command, book, other, ("attempt",)),
        (swaying.swayed, book, other, ("attempt",)), (swaying.sure, book, {}), (swaying.sure, book, dict(list(due.items())[::2])),
        (swaying.rounds_of, book)]


def calls_with_plans(chance):
    """All functions on plans and lines."""
    book = random_work(chance, 5)
    plan = plans.list_plan(book, 2)
    begins, line = tuple((name, begin) for name, _, begin in plan), lines.line_of(book, 2)
    near = [list(plan), list(map(list, plan)), plan[:1] + ([nested(3, {})],) + plan[2:]]
    return [
        (plans.plan_length, book, plan), (plans.dealt, book, begins), (plans.job_order, book), (plans.list_plan, book, 2),
        (plans.turn_plan, book, 2, random_order(chance, book)), (plans.least_plan, book, 2), (plans.longer_example,),
        (lines.earliest, book), (lines.longest_line, book), (lines.least_bound, book, 2), (lines.line_of, book, 2),
        (lines.line_bound, book, 2, line), (lines.judge_line, book, 2, plan, line), (lines.judge_line, book, 2, plan, list(line)),
        (lines.judge_bound, book, 2, [3, ["work"]]), (lines.judge_bound, book, 2, (9, ("line", [["a"]]))),
        (lines.judge_bound, book, 2, (10 ** 9, ("work",)))] + [(plans.judge_plan, book, 2, value) for value in [plan] + near]


def calls_with_series():
    """All functions on calendars and series."""
    calendar = ("both", ("every", 4, 2, None), ("moved", ("list", (1, 5)), 3))
    plain = days.plain_calendar(calendar)
    one = ("day", calendar, 1, ("all", ("k",), ("plus", ("last",), ("result", "k")), (), 1, 1, 0))
    some = [one, ("x", ("list", (3, 9)), 0, ("all", (), ("value", 1), (), 1, 1, 0))]
    return [
        (days.has_time, calendar, 4), (days.times_in, calendar, 0, 30), (days.next_time, calendar, 9), (days.count_times, calendar, 30),
        (days.repeats, calendar), (days.plain_calendar, calendar), (days.first_unlike, calendar, one[1]), (days.is_endless, calendar),
        (days.first_unlike, calendar, ("list", ())), (days.calendar_of, plain), (series.made_name, "day", 7), (series.made_name, "day", 17576),
        (series.made_number, "day", "dayaab"), (series.made_jobs, one, 3, 40), (series.made_book, (), (job("k"),), some, 20),
        (series.made_book, (), (), some, 20), (series.made_book, (), (job("k"), job("k")), some, 20), (series.makes, some, "xaab"),
        (series.makes, some, "xaac"), (days.is_calendar, ["every", 4, 2, None]), (days.is_calendar, ("both", [nested(3, {})], {}))]


def calls_with_letters():
    """All functions on words, seals, disks and letters."""
    words = [("tick",), (3, ("take", 1)), [1, "x"][1], (None, True)]
    disk = disks.written("", words) + "3:i1"
    bad = seals.records(["i1;", "i01;"])
    near = [("no", 1, ["take", 1]), ("told", 1, 0, 0, 0, [("a", {})], (), ()), ["take", 1], ("end", 0, "a", 1, 1, ["failed"])]
    calls = [
        (seals.word_text, (1, ("a", None))), (seals.read_word, "(i1;(t1:aN))"), (seals.read_word, "(i1;"), (seals.check_of, "ab"),
        (seals.sealed, "ab"), (seals.records, ["ab", "", "x"]), (seals.read_records, disk), (disks.words_on, disk), (disks.words_on, bad),
        (disks.mended, disk), (disks.written, disk, words), (disks.torn, disk, words, 9), (letters.unanswered, list(LETTERS), list(LETTERS[6:])),
        (letters.unanswered, list(LETTERS), [])]
    calls += [(disks.is_record, who, value) for who in ("store", "keeper", "machine") for value in near + words]
    calls += [(judge, value) for judge in (letters.judge_letter, letters.is_letter, letters.read_letter) for value in near]
    for letter in LETTERS:
        calls += [(letters.goes_to, letter), (letters.letter_text, letter), (letters.fields_of, letter), (letters.is_answer, LETTERS[1], letter)]
    return calls


def calls_with_stores():
    """All functions on stores; what is told of a store is none, but for what makes another one."""
    here = WEB
    records = [(0, ("take", 1)), ("tick",), (1, ("grant", 1, "a", 1, 0)), (1, ("end", 0, "a", 1, 1, ("done", 3)))]
    one = store.store_again(here, records)
    told = [(each, one, name) for name in "abf" for each in (store.has_ended, store.outcome_in, store.results_in, store.attempt_in,
                                                             store.bars_grant, store.bar_need)]
    return told + [(store.bars_grant, one, "z"), (store.free_units, one), (store.still_open, one)], [
        (store.new_store, here), (store.ticked, one), (store.store_again, here, records)] + [
        (store.store_hears, one, letter) for letter in LETTERS[:6] + (("grant", 1, "c", 5, 0), ("take", 2))]


def some_world():
    """A world in which there is something of all."""
    chance = random.Random(52)
    one = world.new_world(WEB, 3)
    for _ in range(300):
        one = world.after(one, random_event(chance, one))
        if None not in (one["store"], one["keeper"]) and None not in one["hands"].values() and one["keeper"]["holds"] and len(one["air"]) > 4:
            if [hand for hand in one["hands"].values() if hand["works"]] and one["store"]["ends"]:
                return one
    raise AssertionError("no such world came about")


def calls_with_worlds():
    """All functions on machines, keepers, worlds, disks of records and stores as they are judged: those that tell of them, and those that make some."""
    here = some_world()
    hand = [each for each in here["hands"].values() if each["works"]][0]
    fence, one, judged = min(hand["works"]), here["keeper"], here["store"]
    disk, kept = here["disks"][("store",)], list(disks.words_on(here["disks"][("machine", hand["machine"])]))
    script = [("hear", 0), ("tick",), ("torn", ("tick",), 3), ("back", ("store",)), ("lapse", "a")]
    tells = [(recovery.recovered_keeper, here["disks"][("keeper",)]), (recovery.recovered_keeper, disk), (recovery.kept_letters, disk),
             (keeper.known_free, one), (keeper.idle_machines, one), (keeper.grants_now, one), (keeper.bars_now, one), (keeper.keeper_again, one),
             (machines.end_letter, hand, WEB, fence), (machines.open_works, hand, WEB), (machines.steps_missing, hand, WEB),
             (air.taken_out, here["air"], 3), (air.doubled, here["air"], 3), (air.for_whom, here["air"], ("store",)), (world.who_is_down, here),
             (world.outcomes_now, here), (world.left_over, here), (world.judge_world, here), (checker.told_outcomes, judged),
             (checker.have_all_ended, judged), (checker.judge_store, judged), (checker.judge_ends, judged), (checker.ready_now, judged),
             (checker.waited_for, judged), (scripts.event_text, script[2]), (scripts.script_text, script), (scripts.read_script, "tick\ntorn 3 work 1")]
    tells += [(world.is_event, here, value) for value in [["tick"], ("hear", [0]), ("fall", ["store"]), ("torn", ["tick"], {})] + script]
    tells += [(each, one, name) for name in "abf" for each in (keeper.known_outcome, keeper.known_results)]
    tells += [(each, judged, name, value) for name in "abf" for each in (checker.judge_why_now,) for value in ([name], ("may",), {"a": []})]
    tells += [(checker.why_now, judged, name) for name in "abcdef"]
    makes = [(recovery.recovered_store, WEB, disk), (recovery.recovered_machine, hand["machine"], here["disks"][("machine", hand["machine"])]),
             (keeper.new_keeper, WEB, 3, 1), (keeper.keeper_back, WEB, 3, 1), (keeper.keeper_does, one), (keeper.keeper_lapses, one, one["holds"][0][0]),
             (machines.fresh_machine, 3), (machines.machine_took, hand, "a", 99, 1, ()), (machines.machine_took, hand, "a", fence, 1, ()),
             (machines.machine_stepped, hand, fence, 3), (machines.machine_stepped, hand, 999, 3), (machines.machine_put_away, hand, fence),
             (machines.machine_changed, hand, ("gone", 7)), (machines.machine_again, hand["machine"], kept), (machines.machine_works, hand, WEB),
             (machines.machine_tells, hand, WEB), (world.new_world, WEB, 3), (world.played, here, script), (world.played, here, [script[0], ["tick"]]),
             (world.calm, here), (world.store_of, here)]
    makes += [(keeper.keeper_hears, one, letter) for letter in here["air"] + LETTERS]
    makes += [(machines.machine_hears, hand, WEB, letter) for letter in here["air"] if letters.goes_to(letter)[0] == "machine"]
    return tells, makes + [(world.after, here, event) for event in script + [("again",), ("fall", ("store",)), ("lose", 1), ("double", 2), ["tick"]]]


def answer(call):
    """What a call returns, or the error that it raises, as a value."""
    try:
        return ("returns", call[0](*call[1:]))
    except JobError as error:
        return ("raises", error.__class__.__name__, vars(error))


def lists_in(value):
    """The lists and dicts in a value."""
    found = [value] if isinstance(value, (list, dict)) else []
    members = list(value.values()) if isinstance(value, dict) else value if isinstance(value, (list, tuple)) else []
    return found + [each for member in members for each in lists_in(member)]


class Keeping(unittest.TestCase):
    def calls(self):
        chance = random.Random(51)
        books_here = [WEB] + [random_book(chance, many) for many in (1, 5, 12)]
        calls = [call for book in books_here for call in calls_with(book)]
        calls += calls_with_plans(chance) + calls_with_plans(chance) + calls_with_series() + calls_with_letters()
        calls += calls_with_stores()[0] + calls_with_worlds()[0]
        odd = ODD_VALUES + ([list(WEB)], (WEB[0], [WEB[1]]), [nested(13, {"a": []})])
        return calls + [(judge, value) for judge in JUDGES_OF_VALUES for value in odd]

    def test_no_argument_is_modified(self):
        for call in self.calls() + calls_with_stores()[1] + calls_with_worlds()[1]:
            before = copy.deepcopy(call[1:])
            answer(call)
            self.assertEqual(repr(call[1:]), repr(before), call[0])

    def test_nothing_that_is_returned_is_shared(self):
        for call in self.calls():
            got = answer(call)
            passed = [id(each) for each in lists_in(call[1:])]
            for each in lists_in(got[1:]):
                self.assertNotIn(id(each), passed)
            due = copy.deepcopy(got)
            for each in lists_in(got[1:]):
                each.clear()
            self.assertEqual(answer(call), due, call[0])

    def test_a_store_that_is_returned_is_no_other(self):
        # Stores may share what they are made of, but not the fields themselves.
        for call in calls_with_stores()[1]:
            got = answer(call)[1]
            made = got[0] if isinstance(got, tuple) else got
            self.assertNotIn(id(made), [id(each) for each in call[1:]])
            if isinstance(got, tuple):
                self.assertEqual(lists_in(got[1]), [])

    def test_what_comes_of_worlds_stays_when_more_comes_of_them(self):
        for call in calls_with_worlds()[1]:
            due = answer(call)
            kept = copy.deepcopy(due)
            for _ in range(2):
                self.assertEqual(answer(call), kept)
            self.assertEqual(due, kept)

    def test_lists_of_houses_are_their_own(self):
        house = Desk(WEB, 2).house()
        for deed in (("tick",), ("fall", ("keeper",)), ("calm",), ("fall", ("store",))):
            house.do(deed)
        shown = (house.deeds(), house.down())
        due = copy.deepcopy(shown)
        for each in shown:
            each.clear()
        self.assertEqual((house.deeds(), house.down()), due)

    def test_equal_calls_give_equal_answers(self):
        for call in self.calls() + calls_with_stores()[1] + calls_with_worlds()[1]:
            self.assertEqual(answer(call), answer((call[0],) + copy.deepcopy(call[1:])))

    def test_only_chains_scripts_and_who_is_down_are_lists(self):
        for call in self.calls():
            if call[0] not in (orders.narrowest, scripts.read_script, world.who_is_down):
                self.assertEqual([each for each in lists_in(answer(call)[1]) if answer(call)[0] == "returns"], [])

    def test_answers_are_yes_and_no(self):
        for judge in (values.is_value, values.is_name, commands.is_command, books.is_job, books.is_book, days.is_calendar,
                      letters.is_letter, lambda value: disks.is_record("store", value), lambda value: world.is_event(world.new_world(WEB, 1), value)):
            for value in ODD_VALUES + (WEB, WEB[1][0], COMMAND, ("every", 1, 1, None), ("ask", 1), ("tick",), (3, ("ask", 1))):
                self.assertIn(repr(judge(value)), ("True", "False"))


if __name__ == "__main__":
    unittest.main()
