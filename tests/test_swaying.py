"""[4.5] to [4.8]: what outcomes hang on, what changes them, what is sure."""

import random
import unittest

from effectonce.books import job_of, names_of_jobs
from effectonce.meaning import outcomes
from effectonce.orders import closed, hung_on, lots, only, ranks, renamed
from effectonce.swaying import changed, looked_at, rounds_of, sure, swayed, truly_hangs, with_command
from tests.oracles import naive_outcomes, naive_worth
from tests.samples import WEB, book, chain_book, job, random_book, random_command

FAILS = ("demand", ("value", 0), ("value", 1))


def result(name):
    return ("result", name)


class LookedAt(unittest.TestCase):
    def looked(self, command, tries=1, mode="all", **others):
        commands = {"a": ("value", 1), "b": ("value", 0), "c": ("value", "c"), **others}
        jobs = [job(name, command=commands[name]) for name in "abc"]
        return looked_at(book(*jobs, job("z", tuple("abc"), command, mode, tries=tries)), "z")

    def test_none(self):
        self.assertEqual(self.looked(("value", 1)), ())
        self.assertEqual(self.looked(("attempt",)), ())
        self.assertEqual(self.looked(FAILS, 5), ())

    def test_parts_left_out(self):
        self.assertEqual(self.looked(("if", result("a"), result("b"), result("c"))), ("a", "b"))
        self.assertEqual(self.looked(("if", result("b"), result("a"), result("c"))), ("b", "c"))
        self.assertEqual(self.looked(("if", ("value", 1), result("b"), result("c"))), ("b",))
        self.assertEqual(self.looked(("demand", result("b"), result("c"))), ("b",))
        self.assertEqual(self.looked(("demand", result("a"), result("c"))), ("a", "c"))

    def test_failures_end_it(self):
        self.assertEqual(self.looked(("plus", result("c"), ("plus", FAILS, result("a")))), ("c",))
        self.assertEqual(self.looked(("plus", FAILS, result("c"))), ())
        self.assertEqual(self.looked(("or", result("c"), ("and", result("b"), ("demand", result("b"), result("a"))))), ("b", "c"))

    def test_both_parts_of_and_or(self):
        self.assertEqual(self.looked(("and", result("b"), result("c"))), ("b", "c"))
        self.assertEqual(self.looked(("or", result("a"), result("c"))), ("a", "c"))

    def test_failed_attempts_count(self):
        # The first attempt looks at c and fails, the second one at a.
        command = ("if", ("is", ("attempt",), ("value", 1)), ("plus", result("c"), FAILS), result("a"))
        self.assertEqual(self.looked(command, 1), ("c",))
        self.assertEqual(self.looked(command, 2), ("a", "c"))
        self.assertEqual(self.looked(command, 5), ("a", "c"))

    def test_attempts_that_were_not_made_do_not_count(self):
        command = ("if", ("is", ("attempt",), ("value", 1)), result("b"), result("c"))
        self.assertEqual(self.looked(command, 5), ("b",))

    def test_barred_and_ended(self):
        self.assertEqual(self.looked(result("a"), c=FAILS), ())
        self.assertEqual(self.looked(result("a"), mode="ended", c=FAILS), ("a",))
        self.assertEqual(self.looked(("if", result("c"), result("a"), result("b")), mode="ended", c=FAILS), ("b", "c"))

    def test_by_chance(self):
        chance = random.Random(41)
        for _ in range(150):
            value = random_book(chance, chance.randint(1, 8), 50, 5)
            due = naive_outcomes(value)
            for name, _, needs, command, _, _, _, _, _ in value[1]:
                results = [(need, due[need][2] if due[need][0] == "done" else None) for need in needs]
                looked = []
                for k in range(1, 1 + (0 if due[name][0] == "barred" else due[name][1])):
                    naive_worth(command, results, k, looked)
                self.assertEqual(looked_at(value, name), tuple(sorted(set(looked))))


class TrulyHangs(unittest.TestCase):
    def test_each_step(self):
        fails, fine = FAILS, ("value", 1)
        value = book(
            job("a", command=fine), job("b", ("a",), fine), job("c", command=fails), job("d", ("a",), fine),
            # Barred by c: by the need, and by the lesser ones, not by d.
            job("e", ("b", "c", "d"), result("d")),
            # Mode "all": all needs. Mode "ended": those looked at alone.
            job("f", ("b", "d"), result("d")), job("g", ("b", "d"), result("d"), "ended"), job("h", ("b", "e"), fine, "ended"),
            job("i", ("e", "h"), result("h"), "ended"), job("j", ("h", "i"), fine), job("k", ("e",), result("e"), "ended"))
        self.assertEqual([truly_hangs(value, name) for name in "abcdefghijk"],
                         [(), ("a",), (), ("a",), ("a", "b", "c"), ("a", "b", "d"), ("a", "d"), (), ("h",), ("h", "i"),
                          ("a", "b", "c", "e")])

    def test_what_it_does_not_hang_on_may_change(self):
        chance = random.Random(42)
        for _ in range(150):
            value = random_book(chance, chance.randint(2, 9), 35, 4)
            names = names_of_jobs(value)
            due = dict(outcomes(value))
            name = chance.choice(names)
            kept = {name, *truly_hangs(value, name)}
            self.assertNotIn(name, truly_hangs(value, name))
            other = self.shaken(chance, value, kept)
            self.assertEqual(dict(outcomes(other))[name], due[name])

    def shaken(self, chance, value, kept):
        """All jobs but these get other commands, modes and tries."""
        jobs = []
        for each in value[1]:
            if each[0] not in kept:
                each = job(each[0], each[2], random_command(chance, each[2], 3), chance.choice(("all", "ended")),
                           tries=chance.randint(1, 5))
            jobs.append(each)
        return (value[0], tuple(jobs))

    def test_it_tells_no_more_than_it_must_of_one_book(self):
        self.assertEqual([truly_hangs(WEB, name) for name in "abcdef"],
                         [(), ("a",), ("a",), ("a", "b"), ("a", "b", "c", "d"), ("a", "b", "d")])


class Changes(unittest.TestCase):
    def test_changed(self):
        other = with_command(with_command(WEB, "a", ("value", 0)), "f", ("value", 7))
        self.assertEqual(changed(WEB, other), (("a", ("done", 1, 3), ("done", 1, 0)), ("b", ("done", 1, 7), ("done", 1, 4))))
        self.assertEqual(changed(other, WEB), (("a", ("done", 1, 0), ("done", 1, 3)), ("b", ("done", 1, 4), ("done", 1, 7))))
        self.assertEqual(changed(book(), book()), ())

    def test_with_command(self):
        for k, each in enumerate(WEB[1]):
            got = with_command(WEB, each[0], ("attempt",))
            self.assertEqual(got, (WEB[0], WEB[1][:k] + (each[:3] + (("attempt",),) + each[4:],) + WEB[1][k + 1:]))

    def test_swayed_by_chance(self):
        chance = random.Random(43)
        met = 0
        for _ in range(150):
            value = random_book(chance, chance.randint(1, 10), 30)
            name = chance.choice(names_of_jobs(value))
            command = random_command(chance, job_of(value, name)[2], 3)
            got = swayed(value, name, command)
            first, second = naive_outcomes(value), naive_outcomes(with_command(value, name, command))
            self.assertEqual(got, tuple((n, first[n], second[n]) for n in sorted(first) if first[n] != second[n]))
            for row in got:
                self.assertIn(row[0], (name, *hung_on(value, name)))
            met += len(got)
        self.assertGreater(met, 50)

    def test_lots_and_closed_jobs(self):
        chance = random.Random(44)
        for _ in range(80):
            value = random_book(chance, chance.randint(1, 12), 12)
            due = dict(outcomes(value))
            for lot in lots(value):
                self.assertEqual(outcomes(only(value, list(lot))), tuple((name, due[name]) for name in lot))
            names = [name for name in due if chance.randrange(3) == 0]
            self.assertEqual(outcomes(only(value, names)), tuple((name, due[name]) for name in closed(value, names)))

    def test_renamed(self):
        chance = random.Random(45)
        for _ in range(80):
            value = random_book(chance, 9, 40)
            old = names_of_jobs(value)
            names = dict(zip(old, chance.sample(["x" + name for name in "abcdefghi"], len(old))))
            due, got = dict(outcomes(value)), dict(outcomes(renamed(value, names)))
            for name in old:
                if due[name][0] == "barred":
                    self.assertEqual(got[names[name]][0], "barred")
                else:
                    self.assertEqual(got[names[name]], due[name])

    def test_what_changes_none(self):
        chance = random.Random(46)
        for _ in range(40):
            value = random_book(chance, 9, 40)
            jobs = tuple(each[:4] + ((), chance.randint(1, 20), each[6], chance.randint(0, 1000), chance.randint(-100, 100))
                         for each in value[1])
            self.assertEqual(changed(value, ((("disk", 9),), jobs)), ())


class Sure(unittest.TestCase):
    VALUE = book(job("a"), job("b", command=FAILS), job("c", command=FAILS), job("d", ("a", "b", "c")),
                 job("e", ("a", "c"), mode="ended"), job("f", ("b",), ("result", "b"), "ended"), job("g", ("d",)))

    def assert_sure(self, ended, **due):
        self.assertEqual(sure(self.VALUE, ended), tuple(sorted(due.items())))

    def test_step_by_step(self):
        done, failed, barred = ("done", 1, 1), ("failed", 1), ("barred", "b")
        self.assert_sure({}, a=done, b=failed, c=failed)
        self.assert_sure({"a": done}, b=failed, c=failed)
        self.assert_sure({"a": done, "b": failed}, c=failed, d=barred, f=("done", 1, None))
        # b bars d only if a is known as done; c bars nothing as long as b is not known.
        self.assert_sure({"b": failed}, a=done, c=failed, f=("done", 1, None))
        self.assert_sure({"a": done, "c": failed}, b=failed, e=("done", 1, 1))
        self.assert_sure({"c": failed}, a=done, b=failed)
        self.assert_sure({"d": barred}, a=done, b=failed, c=failed, g=("barred", "d"))
        self.assert_sure({"a": done, "b": failed, "c": failed}, d=barred, e=("done", 1, 1), f=("done", 1, None))
        self.assert_sure({"a": done, "b": failed, "c": failed, "d": barred, "e": done, "f": ("done", 1, None)}, g=("barred", "d"))
        self.assert_sure(dict(outcomes(self.VALUE)))

    def test_no_jobs(self):
        self.assertEqual((sure(book(), {}), rounds_of(book())), ((), ()))

    def test_any_part_of_the_outcomes(self):
        chance = random.Random(47)
        for _ in range(200):
            value = random_book(chance, chance.randint(1, 10), 40)
            due = naive_outcomes(value)
            ended = {name: due[name] for name in due if chance.randrange(2)}
            rows = []
            for name, mode, needs, _, _, _, _, _, _ in value[1]:
                known = [need in ended for need in needs]
                done = [need in ended and ended[need][0] == "done" for need in needs]
                barred = [k for k in range(len(needs)) if known[k] and not done[k] and all(done[:k])]
                if name not in ended and (all(known) or mode == "all" and barred):
                    rows.append((name, due[name]))
            self.assertEqual(sure(value, ended), tuple(sorted(rows)))

    def test_rounds(self):
        chance = random.Random(48)
        for _ in range(100):
            value = random_book(chance, chance.randint(1, 12), 30)
            rounds, known = rounds_of(value), {}
            for names in rounds:
                told = sure(value, known)
                self.assertTrue(names)
                self.assertEqual(names, tuple(name for name, _ in told))
                self.assertEqual(list(names), sorted(names))
                known.update(dict(told))
            self.assertEqual(tuple(sorted(known.items())), outcomes(value))
            self.assertLessEqual(len(rounds), 1 + max(rank for _, rank in ranks(value)))

    def test_fewer_rounds_than_ranks(self):
        value = book(job("a", command=FAILS), job("b"), job("c", ("b",)), job("d", ("a", "c")))
        self.assertEqual(rounds_of(value), (("a", "b"), ("c", "d")))

    def test_long_chains(self):
        names = ["n" + chr(97 + k // 26) + chr(97 + k % 26) for k in range(100)]
        self.assertEqual(rounds_of(chain_book(names)), tuple((name,) for name in names[::-1]))


if __name__ == "__main__":
    unittest.main()
