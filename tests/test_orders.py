"""[3.4] to [3.6]: ranks, orders, chains, books made of books."""

import itertools
import random
import unittest

from effectonce.books import names_of_jobs
from effectonce.errors import BadBook
from effectonce.orders import (closed, in_order, judge_chains, judge_order, lots, narrowest, only, ranks, renamed,
                               widest, with_job, without)
from effectonce.webs import judge_book
from tests.oracles import naive_hangs, naive_widest, parts
from tests.samples import ODD_VALUES, WEB, book, chain_book, job, random_book, random_web


def needs_by_name(value):
    return {each[0]: each[2] for each in value[1]}


def naive_rank(needs, name):
    return 0 if not needs[name] else 1 + max(naive_rank(needs, need) for need in needs[name])


class Ranks(unittest.TestCase):
    MIXED = book(job("a", ("d",)), job("b"), job("c", ("a", "b")), job("d"), job("e", ("b",)))

    def test_ranks_and_order(self):
        self.assertEqual(ranks(self.MIXED), (("a", 1), ("b", 0), ("c", 2), ("d", 0), ("e", 1)))
        self.assertEqual(in_order(self.MIXED), ("b", "d", "a", "e", "c"))
        self.assertEqual((ranks(book()), in_order(book())), ((), ()))

    def test_by_chance(self):
        chance = random.Random(21)
        for _ in range(80):
            value = random_web(chance, chance.randint(1, 12), chance.choice((5, 20, 50)))
            needs = needs_by_name(value)
            due = {name: naive_rank(needs, name) for name in needs}
            self.assertEqual(ranks(value), tuple(sorted(due.items())))
            self.assertEqual(in_order(value), tuple(sorted(needs, key=lambda name: (due[name], name))))
            self.assertIsNone(judge_order(value, in_order(value)))

    def test_judge_order(self):
        for value in itertools.permutations("abcde"):
            needs = needs_by_name(self.MIXED)
            early = [name for k, name in enumerate(value) if not set(needs[name]) <= set(value[:k])]
            self.assertEqual(judge_order(self.MIXED, value), ("early", early[0]) if early else None)

    def test_judge_order_not_by_ranks(self):
        self.assertIsNone(judge_order(self.MIXED, ("d", "a", "b", "c", "e")))
        self.assertEqual(judge_order(self.MIXED, ("b", "c", "a", "d", "e")), ("early", "c"))

    def test_judge_order_form(self):
        for value in ODD_VALUES + (list("bdaec"), "bdaec", tuple("bdae"), tuple("bdaecc"), tuple("bdaee"), tuple("bdaef"),
                                   ("b", "d", "a", "e", ["c"]), ("b", "d", "a", "e", None), (tuple("bdaec"),),
                                   tuple("bdaec") + (True,)):
            self.assertEqual(judge_order(self.MIXED, value), ("form",), value)
        for value in ODD_VALUES:
            self.assertEqual(judge_order(book(), value), None if value == () else ("form",), value)


class Chains(unittest.TestCase):
    def assert_both(self, value):
        """The document's own words, asked of whatever came."""
        needs = needs_by_name(value)
        below = {name: naive_hangs(needs, name) for name in needs}
        n, names = widest(value)
        chains = narrowest(value)
        self.assertIsInstance(names, tuple)
        self.assertIsInstance(chains, list)
        self.assertEqual(list(names), sorted(set(names)))
        self.assertEqual(len(names), n)
        self.assertFalse([1 for name in names if below[name] & set(names)])
        self.assertEqual(sorted(name for chain in chains for name in chain), sorted(needs))
        for chain in chains:
            self.assertIsInstance(chain, tuple)
            self.assertTrue(chain)
            for k in range(len(chain) - 1):
                self.assertIn(chain[k + 1], below[chain[k]])
        # As many chains as names of which none hangs on another: neither can be bettered.
        self.assertEqual(len(chains), n)
        self.assertIsNone(judge_chains(value, chains))
        self.assertIsNone(judge_chains(value, tuple(chains)))

    def test_without_needs_and_chains(self):
        for many in range(13):
            names = "abcdefghijkl"[:many]
            flat = book(*[job(name) for name in names])
            self.assert_both(flat)
            self.assertEqual(widest(flat), (many, tuple(names)))
            chain = book(*[job(name, names[k - 1:k] if k else ()) for k, name in enumerate(names)])
            self.assert_both(chain)
            self.assertEqual(widest(chain)[0], min(many, 1))
            self.assertEqual(narrowest(chain), [tuple(names[::-1])] if many else [])

    def test_by_chance(self):
        chance = random.Random(22)
        for many in range(1, 13):
            for thick in (5, 10, 20, 35, 60):
                for _ in range(4):
                    value = random_web(chance, many, thick)
                    self.assert_both(value)
                    if many <= 9:
                        self.assertEqual(widest(value)[0], naive_widest(needs_by_name(value)))

    def test_names_that_hang_on_each_other_by_way_of_others(self):
        value = book(job("a"), job("b"), job("c", ("a", "b")), job("d", ("c",)), job("e", ("c",)))
        self.assert_both(value)
        self.assertEqual(widest(value)[0], 2)
        self.assertIsNone(judge_chains(value, [("d", "a"), ("e", "c", "b")]))

    # One wide, one chain, one between.
    VALUE = book(job("a"), job("b", ("a",)), job("c", ("b",)), job("d", ("a",)), job("e"))

    def test_judge_chains(self):
        for value, due in (
                ([("c", "b", "a"), ("d",), ("e",)], None), ([("e",), ("d", "a"), ("c", "b")], None),
                ((("c", "a"), ("b",), ("d",), ("e",)), ("many", 3)), ([("a",), ("b",), ("c",), ("d",), ("e",)], ("many", 3)),
                ([("c", "b", "a"), ("d",)], ("lacks", "e")), ([("c",), ("e",)], ("lacks", "a")), ([], ("lacks", "a")),
                ((), ("lacks", "a")), ([("c", "b", "a"), ("d", "a"), ("e",)], ("twice", "a")),
                ([("c", "b", "b"), ("e", "e")], ("twice", "b")), ([("e",), ("e",), ("d",), ("d",)], ("twice", "d")),
                ([("c", "b", "a"), ("d", "e")], ("chain", 1)), ([("b", "c"), ("d", "a"), ("e",)], ("chain", 0)),
                ([("c", "b"), ("d", "a"), ("e",)], None), ([("c", "b"), ("a", "d"), ("e",)], ("chain", 1)),
                ([("d",), ("e", "c"), ("a", "b")], ("chain", 1)), ([("c", "a", "b"), ("d",), ("e",)], ("chain", 0)),
                ([("c", "b", "d", "a"), ("e",)], ("chain", 0))):
            self.assertEqual(judge_chains(self.VALUE, value), due, value)
            self.assertEqual(judge_chains(self.VALUE, tuple(value)), due, value)

    def test_judge_chains_form(self):
        good = [("c", "b", "a"), ("d",), ("e",)]
        for value in ODD_VALUES + (good[:2] + [["e"]], good[:2] + ["e"], good + [()], good[:2] + [("f",)], [good],
                                   good[:2] + [("e", None)], good[:2] + [("e", ["a"])], {"a": good}, ("a", "b", "c", "d", "e"),
                                   good[:2] + [("e", True)], good + [None]):
            due = judge_chains(self.VALUE, value)
            if value in ((), []):
                self.assertEqual(due, ("lacks", "a"))
            elif value in ((("a",),), [("a",)]):
                self.assertEqual(due, ("lacks", "b"))
            else:
                self.assertEqual(due, ("form",), value)

    def test_no_jobs(self):
        self.assertEqual((widest(book()), narrowest(book())), ((0, ()), []))
        for value in ODD_VALUES:
            self.assertEqual(judge_chains(book(), value), None if value in ((), []) else ("form",), value)

    def test_what_is_returned_is_the_callers_own(self):
        chains = narrowest(WEB)
        chains.clear()
        self.assertEqual(len(narrowest(WEB)), 2)

    def test_more_jobs_than_callers_pass(self):
        chance = random.Random(23)
        for thick in (3, 10, 30):
            self.assert_both(random_web(chance, 26, thick))


class PartsOfBooks(unittest.TestCase):
    def test_closed(self):
        self.assertEqual(closed(WEB, []), ())
        self.assertEqual(closed(WEB, ["a"]), ("a",))
        self.assertEqual(closed(WEB, ["e"]), ("a", "b", "c", "d", "e"))
        self.assertEqual(closed(WEB, ["d", "c", "c"]), ("a", "b", "c", "d"))
        self.assertEqual(closed(WEB, ("f",)), tuple("abcdef"))

    def test_only_and_without_by_chance(self):
        chance = random.Random(24)
        for _ in range(60):
            value = random_book(chance, chance.randint(1, 12), 25)
            needs = needs_by_name(value)
            below = {name: naive_hangs(needs, name) for name in needs}
            names = [name for name in needs if chance.randrange(3) == 0]
            kept = set(names).union(*[below[name] for name in names])
            self.assertEqual(closed(value, names), tuple(sorted(kept)))
            self.assertEqual(only(value, names), (value[0], tuple(each for each in value[1] if each[0] in kept)))
            self.assertIsNone(judge_book(only(value, names)))
            for name in needs:
                left = tuple(each for each in value[1] if each[0] != name and name not in below[each[0]])
                self.assertEqual(without(value, name), (value[0], left))
                self.assertIsNone(judge_book(without(value, name)))

    def test_without_keeps_the_things(self):
        self.assertEqual(without(WEB, "a"), (WEB[0], ()))
        self.assertEqual(without(WEB, "f"), (WEB[0], WEB[1][:5]))

    def test_with_a_new_job(self):
        for name, k in (("aa", 1), ("bz", 2), ("zz", 6)):
            new = job(name, ("a",), ("result", "a"), uses=(("cpu", 1),))
            self.assertEqual(with_job(WEB, new), (WEB[0], WEB[1][:k] + (new,) + WEB[1][k:]))
        self.assertEqual(with_job(book(), job("a")), book(job("a")))
        value = book(job("b"))
        self.assertEqual(with_job(value, job("a")), book(job("a"), job("b")))

    def test_in_the_place_of_one(self):
        for k, each in enumerate(WEB[1]):
            new = job(each[0], each[2], ("attempt",), length=20)
            self.assertEqual(with_job(WEB, new), (WEB[0], WEB[1][:k] + (new,) + WEB[1][k + 1:]))

    def test_a_book_that_is_not_right(self):
        for new, number, word in (
                (job("bb", ("zz",)), 2, "needs"), (job("c", ("b", "a")), 2, "needs"), (job("zz", (), ("result", "a")), 6, "result"),
                (job("a", uses=(("cpu", 3),)), 0, "units"), (job("aa", uses=(("pen", 1),)), 1, "units"), (job("b", ("e",)), 1, "ring"),
                (job("d", ("d",)), 3, "ring")):
            with self.assertRaises(BadBook) as caught:
                with_job(WEB, new)
            self.assertEqual((caught.exception.number, caught.exception.word), (number, word))

    def test_lots(self):
        value = book(job("a"), job("b"), job("c", ("a",)), job("d"), job("e", ("b",)), job("f", ("a", "d")), job("g"))
        self.assertEqual(lots(value), (("a", "c", "d", "f"), ("b", "e"), ("g",)))
        self.assertEqual(lots(book()), ())
        self.assertEqual(lots(book(job("b"), job("c"))), (("b",), ("c",)))

    def test_lots_by_chance(self):
        chance = random.Random(25)
        for _ in range(60):
            value = random_web(chance, chance.randint(1, 14), chance.choice((5, 10, 20)))
            lot = {name: {name} for name in names_of_jobs(value)}
            for each in value[1]:
                for need in each[2]:
                    joined = lot[each[0]] | lot[need]
                    for name in joined:
                        lot[name] = joined
            self.assertEqual(lots(value), tuple(sorted({tuple(sorted(names)) for names in lot.values()})))


class Renamed(unittest.TestCase):
    def test_exchanged_at_once(self):
        value = book(job("a"), job("b", ("a",), ("plus", ("result", "a"), ("value", "a"))),
                     job("c", ("a", "b"), ("if", ("result", "b"), ("not", ("result", "a")), ("result", "b")), "ended"))
        self.assertEqual(
            renamed(value, {"a": "b", "b": "a", "c": "c"}),
            book(job("a", ("b",), ("plus", ("result", "b"), ("value", "a"))), job("b"),
                 job("c", ("a", "b"), ("if", ("result", "a"), ("not", ("result", "b")), ("result", "a")), "ended")))
        self.assertEqual(
            renamed(value, {"a": "c", "b": "a", "c": "b"}),
            book(job("a", ("c",), ("plus", ("result", "c"), ("value", "a"))),
                 job("b", ("a", "c"), ("if", ("result", "a"), ("not", ("result", "c")), ("result", "a")), "ended"), job("c")))

    def test_all_else_stays(self):
        value = (WEB[0], (job("cpu", (), ("value", "cpu"), "ended", (("cpu", 2),), 3, 4, 5, -6),))
        self.assertEqual(renamed(value, {"cpu": "a"}), (WEB[0], (("a",) + value[1][0][1:],)))

    def test_by_chance(self):
        chance = random.Random(26)
        for _ in range(60):
            value = random_book(chance, 8, 40)
            old = names_of_jobs(value)
            new = chance.sample(list(old) + ["x" + name for name in "abcdefgh"], len(old))
            names = dict(zip(old, new))
            got = renamed(value, names)
            self.assertIsNone(judge_book(got))
            self.assertEqual(names_of_jobs(got), tuple(sorted(new)))
            jobs = {each[0]: each for each in got[1]}
            for each in value[1]:
                other = jobs[names[each[0]]]
                self.assertEqual(other[2], tuple(sorted(names[need] for need in each[2])))
                self.assertEqual((other[1],) + other[4:], (each[1],) + each[4:])
                for one, two in zip(parts(each[3]), parts(other[3])):
                    due = ("result", names[one[1]]) if one[0] == "result" else None
                    self.assertEqual(two if due else two[0], due if due else one[0])
            self.assertEqual(renamed(got, dict(zip(new, old))), value)


class Bounds(unittest.TestCase):
    """[3.6], and somewhat beyond."""

    def test_forty_jobs(self):
        chance = random.Random(27)
        names = ["n" + chr(97 + k // 26) + chr(97 + k % 26) for k in range(40)]
        value = book(*[job(name, sorted(chance.sample(names[:k], min(k, 12)))) for k, name in enumerate(names)])
        self.assertIsNone(judge_book(value))
        self.assertIsNone(judge_order(value, in_order(value)))
        self.assertEqual(lots(value), (tuple(names),))
        self.assertEqual(judge_chains(value, narrowest(value)), None)
        self.assertEqual(renamed(renamed(value, {name: "m" + name for name in names}), {"m" + name: name for name in names}), value)

    def test_a_long_chain(self):
        value = chain_book(["n" + chr(97 + k // 26) + chr(97 + k % 26) for k in range(300)])
        self.assertEqual([rank for _, rank in ranks(value)], list(range(300))[::-1])
        self.assertEqual(len(lots(value)), 1)


if __name__ == "__main__":
    unittest.main()
