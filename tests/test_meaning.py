"""[4.1] to [4.4], [4.8]: outcomes, results, tries, why."""

import random
import unittest

from effectonce.books import names_of_jobs
from effectonce.meaning import (blamed, judge_outcomes, judge_why, outcome_due, outcomes, results_due, tries_of, why)
from effectonce.orders import in_order
from tests.oracles import naive_outcomes, naive_worth
from tests.samples import ODD_VALUES, VALUES, WEB, book, chain_book, job, random_book

FAILS = ("demand", ("value", 0), ("value", 1))
THIRD = ("demand", ("below", ("value", 2), ("attempt",)), ("times", ("attempt",), ("value", 5)))


class Outcomes(unittest.TestCase):
    def assert_outcomes(self, value, *due):
        self.assertEqual(outcomes(value), due)
        for name, outcome in due:
            self.assertEqual(outcome_due(value, name), outcome)
        self.assertIsNone(judge_outcomes(value, due))

    def test_no_jobs(self):
        self.assert_outcomes(book())

    def test_tries(self):
        for tries in range(1, 6):
            due = ("failed", tries) if tries < 3 else ("done", 3, 15)
            self.assert_outcomes(book(job("a", command=THIRD, tries=tries)), ("a", due))
            self.assertEqual(tries_of(book(job("a", command=THIRD, tries=tries)), "a"),
                             (("failed",),) * min(tries, 2) + ((("done", 15),) if tries > 2 else ()))

    def test_done_at_once_makes_one_attempt(self):
        self.assertEqual(tries_of(book(job("a", tries=5)), "a"), (("done", 1),))
        self.assertEqual(tries_of(book(job("a", command=("value", None), tries=5)), "a"), (("done", None),))

    def test_both_modes(self):
        both = ("joined", ("if", ("is", ("result", "a"), ("value", None)), ("value", "no"), ("value", "yes")), ("result", "b"))
        for mode, due in (("all", ("barred", "a")), ("ended", ("done", 1, "noxy"))):
            value = book(job("a", command=FAILS), job("b", command=("value", "xy")), job("c", ("a", "b"), both, mode))
            self.assert_outcomes(value, ("a", ("failed", 1)), ("b", ("done", 1, "xy")), ("c", due))
            self.assertEqual(results_due(value, "c"), (("a", None), ("b", "xy")))

    def test_the_first_need_not_done_bars(self):
        value = book(job("a"), job("b", command=FAILS), job("c", ("b",)), job("d", ("a", "b", "c")), job("e", ("a", "c")),
                     job("f", ("a", "c", "g")), job("g", command=FAILS, tries=2), job("h", ("d", "g"), mode="ended"))
        self.assert_outcomes(value, ("a", ("done", 1, 1)), ("b", ("failed", 1)), ("c", ("barred", "b")), ("d", ("barred", "b")),
                             ("e", ("barred", "c")), ("f", ("barred", "c")), ("g", ("failed", 2)), ("h", ("done", 1, 1)))
        self.assertEqual(results_due(value, "d"), (("a", 1), ("b", None), ("c", None)))
        self.assertEqual(tries_of(value, "d"), ())
        self.assertEqual(tries_of(value, "g"), (("failed",), ("failed",)))

    def test_a_none_that_was_done_bars_nothing(self):
        value = book(job("a", command=("value", None)), job("b", ("a",), ("result", "a")))
        self.assert_outcomes(value, ("a", ("done", 1, None)), ("b", ("done", 1, None)))

    def test_needs_that_come_later_by_name(self):
        value = book(job("a", ("c",), ("plus", ("result", "c"), ("value", 1))), job("b", ("a",), ("times", ("result", "a"), ("value", 3))),
                     job("c", command=("value", 4)))
        self.assert_outcomes(value, ("a", ("done", 1, 5)), ("b", ("done", 1, 15)), ("c", ("done", 1, 4)))

    def test_by_chance(self):
        chance = random.Random(31)
        met = {"done": 0, "failed": 0, "barred": 0}
        for _ in range(150):
            value = random_book(chance, chance.randint(1, 12), chance.choice((15, 40)), 4)
            due = naive_outcomes(value)
            self.assert_outcomes(value, *sorted(due.items()))
            for name, mode, needs, command, _, _, tries, _, _ in value[1]:
                met[due[name][0]] += 1
                results = tuple((need, due[need][2] if due[need][0] == "done" else None) for need in needs)
                self.assertEqual(results_due(value, name), results)
                many = {"done": due[name][1], "failed": tries, "barred": 0}[due[name][0]]
                self.assertEqual(tries_of(value, name), tuple(naive_worth(command, results, k + 1) for k in range(many)))
        self.assertGreater(min(met.values()), 30)


class JudgedOutcomes(unittest.TestCase):
    DUE = outcomes(WEB)

    def with_one(self, name, outcome):
        return tuple((other, outcome if other == name else due) for other, due in self.DUE)

    def test_job_by_job(self):
        for name, outcome, fault in (
                ("a", ("done", 1, 4), ("job", "a", ("done", 1, 3))), ("a", ("done", 2, 3), ("job", "a", ("done", 1, 3))),
                ("a", ("failed", 1), ("job", "a", ("done", 1, 3))), ("b", ("done", 1, 8), ("job", "b", ("done", 1, 7))),
                ("b", ("done", 1, "seven"), ("job", "b", ("done", 1, 7))), ("c", ("failed", 2), ("job", "c", ("done", 2, "ok"))),
                ("c", ("done", 1, "ok"), ("job", "c", ("done", 2, "ok"))), ("d", ("failed", 1), ("job", "d", ("failed", 2))),
                ("d", ("barred", "b"), ("job", "d", ("failed", 2))), ("e", ("barred", "c"), ("job", "e", ("barred", "d"))),
                ("e", ("barred", "zzz"), ("job", "e", ("barred", "d"))), ("e", ("done", 1, 1), ("job", "e", ("barred", "d"))),
                ("f", ("done", 1, 1), ("job", "f", ("done", 1, 7))), ("f", ("barred", "d"), ("job", "f", ("done", 1, 7)))):
            self.assertEqual(judge_outcomes(WEB, self.with_one(name, outcome)), fault, (name, outcome))

    def test_those_of_needs_are_as_told(self):
        told = dict(self.DUE)
        told["a"] = ("done", 1, 3)
        told["d"] = ("done", 1, 1)
        self.assertEqual(judge_outcomes(WEB, tuple(sorted(told.items()))), ("job", "d", ("failed", 2)))
        value = book(job("a", ("c",), ("result", "c")), job("b", ("a",), ("result", "a")), job("c", command=("value", 4)))
        told = (("a", ("done", 1, 9)), ("b", ("done", 1, 9)), ("c", ("done", 1, 9)))
        self.assertEqual(judge_outcomes(value, told), ("job", "c", ("done", 1, 4)))
        told = (("a", ("done", 1, 9)), ("b", ("done", 1, 9)), ("c", ("done", 1, 4)))
        self.assertEqual(judge_outcomes(value, told), ("job", "a", ("done", 1, 4)))
        told = (("a", ("done", 1, 4)), ("b", ("done", 1, 9)), ("c", ("done", 1, 4)))
        self.assertEqual(judge_outcomes(value, told), ("job", "b", ("done", 1, 4)))

    def test_by_chance(self):
        chance = random.Random(32)
        for _ in range(150):
            value = random_book(chance, chance.randint(1, 8), 40)
            told = naive_outcomes(value)
            for name in told:
                if chance.randrange(4) == 0:
                    told[name] = chance.choice((("done", chance.randint(1, 3), chance.choice(VALUES)),
                                                ("failed", chance.randint(1, 3)), ("barred", chance.choice(list(told)))))
            fault = None
            for name in in_order(value):
                # Its needs as jobs that come to just what is told, it itself as it stands.
                each = [other for other in value[1] if other[0] == name][0]
                due = self.due_by(each, told)
                if fault is None and told[name] != due:
                    fault = ("job", name, due)
            self.assertEqual(judge_outcomes(value, tuple(sorted(told.items()))), fault)

    def due_by(self, each, told):
        not_done = [need for need in each[2] if told[need][0] != "done"]
        if each[1] == "all" and not_done:
            return ("barred", not_done[0])
        results = [(need, told[need][2] if told[need][0] == "done" else None) for need in each[2]]
        for k in range(1, each[6] + 1):
            answer = naive_worth(each[3], results, k)
            if answer[0] == "done":
                return ("done", k, answer[1])
        return ("failed", each[6])

    def test_form_of_the_table(self):
        due = self.DUE
        for value in ODD_VALUES + (list(due), due[1:], due[:-1], due + due[-1:], due[::-1], due + (("g", ("failed", 1)),),
                                   due[:2] + due[3:4] + due[2:3] + due[4:], tuple(list(pair) for pair in due), dict(due),
                                   tuple(pair + (1,) for pair in due), tuple(pair[:1] for pair in due), names_of_jobs(WEB)):
            self.assertEqual(judge_outcomes(WEB, value), ("form",), value)
        for value in ODD_VALUES:
            self.assertEqual(judge_outcomes(book(), value), None if value == () else ("form",), value)

    def test_form_of_outcomes(self):
        near = ODD_VALUES + (
            ("done", 0, 1), ("done", -1, 1), ("done", True, 1), ("done", None, 1), ("done", "1", 1), ("done", 1), ("done", 1, True),
            ("done", 1, False), ("done", 1, "a.b"), ("done", 1, "a" * 25), ("done", 1, (1,)), ("done", 1, [1]), ("done", 1, 1, 1),
            ["done", 1, 1], ("failed",), ("failed", 0), ("failed", -1), ("failed", True), ("failed", None), ("failed", "1"),
            ("failed", 1, 1), ["failed", 1], ("barred",), ("barred", None), ("barred", ""), ("barred", "A"), ("barred", "abcdefghi"),
            ("barred", 1), ("barred", ("d",)), ("barred", "d", 1), ["barred", "d"], ("Done", 1, 1), ("", 1, 1), (None, 1), ("held", 1),
            (["done"], 1, 1), ("failed", [2]))
        for name in names_of_jobs(WEB):
            for outcome in near:
                if outcome not in (("done", 1, 1), ("failed", 1), ("barred", "a")) or repr(outcome).count("True"):
                    self.assertEqual(judge_outcomes(WEB, self.with_one(name, outcome)), ("form",), (name, outcome))

    def test_wide_forms(self):
        for outcome in (("done", 10 ** 59, -10 ** 59), ("done", 7, "x" * 24), ("failed", 10 ** 59), ("barred", "zzzzzzzz")):
            self.assertEqual(judge_outcomes(WEB, self.with_one("a", outcome))[:2], ("job", "a"))


class Why(unittest.TestCase):
    # b and g fail; from them on jobs are barred in rows.
    ROWS = book(job("a"), job("b", command=FAILS), job("c", ("a", "b")), job("d", ("c",)), job("e", ("d", "g")), job("f", ("d",), mode="ended"),
                job("g", command=FAILS), job("h", ("f", "g")))

    def test_each_kind(self):
        self.assertEqual([why(self.ROWS, name) for name in "abcdefgh"],
                         [("a",), ("b",), ("c", "b"), ("d", "c", "b"), ("e", "d", "c", "b"), ("f",), ("g",), ("h", "g")])
        self.assertEqual([blamed(self.ROWS, name) for name in "abcdefgh"],
                         [(), ("c", "d", "e"), (), (), (), (), ("h",), ()])

    def test_judge_why(self):
        for value, due in (
                (("a",), None), (("b",), None), (("f",), None), (("c", "b"), None), (("e", "d", "c", "b"), None), (("h", "g"), None),
                (("c",), ("end",)), (("d", "c"), ("end",)), (("e", "d", "c"), ("end",)), (("e", "g"), ("barred", 0)),
                (("e", "d", "b"), ("barred", 1)), (("a", "b"), ("barred", 0)), (("b", "a"), ("barred", 0)), (("f", "d"), ("barred", 0)),
                (("c", "a"), ("barred", 0)), (("d", "c", "b", "a"), ("barred", 2)), (("d", "d", "c", "b"), ("barred", 0)),
                (("a", "a"), ("barred", 0)), (("h", "f"), ("barred", 0)), (("b", "c"), ("barred", 0))):
            self.assertEqual(judge_why(self.ROWS, value), due, value)

    def test_judge_why_form(self):
        for value in ODD_VALUES + (["c", "b"], "cb", ("c", "z"), ("c", None), ("c", ["b"]), ("c", ("b",)), ("c", True), (("c", "b"),)):
            if value not in (("a",), ("a", "b")):
                self.assertEqual(judge_why(self.ROWS, value), ("form",), value)

    def test_by_chance(self):
        chance = random.Random(33)
        for _ in range(100):
            value = random_book(chance, chance.randint(1, 12), 40)
            due = naive_outcomes(value)
            for name in due:
                names = why(value, name)
                self.assertEqual(names[0], name)
                for k in range(len(names) - 1):
                    self.assertEqual(due[names[k]], ("barred", names[k + 1]))
                self.assertNotEqual(due[names[-1]][0], "barred")
                self.assertEqual(len(names) > 1, due[name][0] == "barred")
                self.assertIsNone(judge_why(value, names))
                others = [other for other in due if due[other][0] == "barred" and why(value, other)[-1] == name]
                self.assertEqual(blamed(value, name), tuple(others))


class Bounds(unittest.TestCase):
    def test_forty_jobs(self):
        names = ["n" + chr(97 + k // 26) + chr(97 + k % 26) for k in range(300)]
        for many in (40, 300):
            value = chain_book(names[:many])
            value = (value[0], value[1][:-1] + (job(names[many - 1], command=FAILS, tries=5),))
            self.assertEqual(outcomes(value)[0], (names[0], ("barred", names[1])))
            self.assertEqual(why(value, names[0]), tuple(names[:many]))
            self.assertEqual(blamed(value, names[many - 1]), tuple(names[:many - 1]))
            self.assertIsNone(judge_why(value, tuple(names[:many])))

    def test_values_that_grow(self):
        row = [job("a", command=("value", 10 ** 8))]
        for one, other in zip("abcdefghi", "bcdefghij"):
            row.append(job(other, (one,), ("times", ("result", one), ("result", one))))
        self.assertEqual(outcome_due(book(*row), "j"), ("done", 1, 10 ** 4096))


if __name__ == "__main__":
    unittest.main()
