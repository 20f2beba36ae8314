"""[3.1] to [3.3], [3.6]: right books, rings, needs, ways."""

import random
import unittest

from effectonce.errors import BadBook
from effectonce.webs import (hangs_on, hung_on, judge_book, judge_ring, judge_way, need_book, needed_by, needs_of,
                             ring_of, way)
from tests.oracles import naive_hangs
from tests.samples import ODD_VALUES, WEB, book, chain_book, job, random_book, random_web

THINGS = (("cpu", 2), ("pen", 0), ("saw", 3))


def needs_by_name(value):
    return {each[0]: each[2] for each in value[1]}


def all_ways(needs, one, other):
    """All ways from one down to other."""
    if one == other:
        return [(one,)]
    return [(one,) + rest for need in needs[one] for rest in all_ways(needs, need, other)]


class RightBooks(unittest.TestCase):
    def test_right(self):
        for value in (WEB, book(), book(things=THINGS), book(job("a")), chain_book("cba")[:1] + (chain_book("cba")[1][::-1],),
                      book(job("a", uses=(("cpu", 2), ("saw", 3))), things=THINGS),
                      book(job("a", ("b",), ("result", "b")), job("b", ("c",)), job("c"))):
            self.assertIsNone(judge_book(value), value)
            self.assertIsNone(need_book(value))

    def test_by_chance(self):
        chance = random.Random(11)
        for many in (1, 3, 12, 40):
            for _ in range(5):
                self.assertIsNone(judge_book(random_book(chance, many)))

    def assert_fault(self, value, number, word):
        self.assertEqual(judge_book(value), (number, word), value)
        with self.assertRaises(BadBook) as caught:
            need_book(value)
        self.assertEqual((caught.exception.number, caught.exception.word), (number, word))

    def test_form(self):
        for value in ODD_VALUES:
            if value not in (((), ()), ((("a", 1),), ())):
                self.assert_fault(value, 0, "form")
        for value in (list(WEB), ([], ()), ((), []), (WEB[0], WEB[1] + (None,)), ((("b", 1), ("a", -1)), ()),
                      book(job("a", length=0)), book(job("b"), job("a", tries=6)), book(job("a", mode="any"))):
            self.assert_fault(value, 0, "form")

    def test_thing(self):
        self.assert_fault(book(things=(("b", 1), ("a", 1), ("c", 1))), 1, "thing")
        self.assert_fault(book(things=(("a", 1), ("c", 1), ("b", 1), ("d", 1))), 2, "thing")
        self.assert_fault(book(things=(("a", 1), ("b", 1), ("c", 1), ("c", 2))), 3, "thing")
        self.assert_fault(book(job("b", ("z",)), job("a"), things=(("a", 1), ("a", 1))), 1, "thing")

    # Each fault, as a change of one job of a right book of five.
    FAULTS = {
        "needs": (("d", "c"), ("c", "c"), ("zz",), ("a", "zz"), ("zz", "a"), ("cpu",)),
        "result": (("result", "e"), ("plus", ("value", 1), ("result", "zz")), ("if", ("value", 0), ("result", "q"), ("attempt",))),
        "units": ((("cpu", 3),), (("pen", 1),), (("disk", 1),), (("saw", 1), ("cpu", 1)), (("cpu", 1), ("cpu", 1)),
                  (("cpu", 1), ("disk", 1)), (("disk", 1), ("cpu", 1)), (("cpu", 2), ("saw", 4))),
    }

    def spoiled(self, jobs, k, word, fault):
        each = jobs[k]
        if word == "needs":
            each = each[:2] + (fault,) + each[3:]
        elif word == "result":
            each = each[:3] + (fault,) + each[4:]
        else:
            each = each[:4] + (fault,) + each[5:]
        return jobs[:k] + (each,) + jobs[k + 1:]

    JOBS = tuple(job(name) for name in "abcde")

    def test_each_fault_in_each_place(self):
        for word in self.FAULTS:
            for fault in self.FAULTS[word]:
                for k in range(5):
                    self.assert_fault((THINGS, self.spoiled(self.JOBS, k, word, fault)), k, word)

    def test_name(self):
        for k in range(1, 5):
            for other in (self.JOBS[k - 1][0], "a"):
                jobs = self.JOBS[:k] + (job(other),) + self.JOBS[k + 1:]
                self.assert_fault((THINGS, jobs), k, "name")

    def test_several_faults_at_once(self):
        needs, result, units = [self.FAULTS[word][0] for word in ("needs", "result", "units")]
        jobs = self.spoiled(self.JOBS, 2, "units", units)
        self.assert_fault((THINGS, self.spoiled(jobs, 3, "needs", needs)), 2, "units")
        jobs = self.spoiled(jobs, 2, "result", result)
        self.assert_fault((THINGS, jobs), 2, "result")
        jobs = self.spoiled(jobs, 2, "needs", needs)
        self.assert_fault((THINGS, jobs), 2, "needs")
        jobs = jobs[:2] + (("b",) + jobs[2][1:],) + jobs[3:]
        self.assert_fault((THINGS, jobs), 2, "name")
        self.assert_fault((THINGS, self.spoiled(jobs, 1, "units", units)), 1, "units")
        self.assert_fault((THINGS[::-1], jobs), 1, "thing")
        self.assert_fault((THINGS[::-1], jobs + (None,)), 0, "form")

    def test_ring(self):
        self.assert_fault(book(job("a", ("a",))), 0, "ring")
        self.assert_fault(book(job("a"), job("b", ("b",)), job("c", ("a",))), 1, "ring")
        self.assert_fault(book(job("a", ("c",)), job("b"), job("c", ("d",)), job("d", ("c",))), 2, "ring")
        self.assert_fault(book(job("a"), job("b", ("a", "e")), job("c", ("b",)), job("d", ("c",)), job("e", ("d",))), 1, "ring")
        self.assert_fault(book(job("a", ("a",)), job("b", uses=(("cpu", 1),))), 1, "units")


class Rings(unittest.TestCase):
    def assert_ring(self, jobs):
        ring = ring_of(jobs)
        self.assertIsInstance(ring, tuple)
        needs = {each[0]: each[2] for each in jobs}
        self.assertEqual(len(set(ring)), len(ring))
        for k, name in enumerate(ring):
            self.assertIn(ring[(k + 1) % len(ring)], needs[name])
        self.assertIsNone(judge_ring(jobs, ring))

    def test_each_kind(self):
        for jobs in ((job("a", ("a",)),), (job("b"), job("a", ("a", "b"))), (job("y", ("x",)), job("x", ("y",))),
                     (job("a", ("b",)), job("b", ("c",)), job("c", ("d", "e")), job("d"), job("e", ("b",))),
                     (job("c", ("a", "a")), job("a", ("c", "b", "c")), job("b")),
                     tuple(job(name, (other,)) for name, other in zip("abcdefgh", "bcdefgha"))):
            self.assert_ring(jobs)

    def test_none(self):
        self.assertIsNone(ring_of(()))
        self.assertIsNone(ring_of(WEB[1]))
        self.assertIsNone(ring_of(WEB[1][::-1]))

    def test_by_chance(self):
        chance = random.Random(12)
        met = {True: 0, False: 0}
        for _ in range(400):
            names = list("abcdefghij"[:chance.randint(1, 10)])
            chance.shuffle(names)
            needs = {name: [other for other in names if chance.randrange(100) < 12] for name in names}
            jobs = tuple(job(name, needs[name]) for name in names)
            there_is = any(name in naive_hangs(needs, name) for name in names)
            met[there_is] += 1
            if there_is:
                self.assert_ring(jobs)
            else:
                self.assertIsNone(ring_of(jobs))
        self.assertGreater(min(met.values()), 50)

    JOBS = (job("a", ("b",)), job("b", ("c", "b")), job("c", ("a", "d")), job("d"))

    def test_judge_ring(self):
        for ring in (("a", "b", "c"), ("b", "c", "a"), ("c", "a", "b"), ("b",)):
            self.assertIsNone(judge_ring(self.JOBS, ring))
        for value, k in ((("a",), 0), (("d",), 0), (("a", "c", "b"), 0), (("a", "b"), 1), (("b", "c"), 1), (("c", "d"), 1),
                         (("a", "b", "c", "d"), 3), (("d", "a", "b", "c"), 0), (("b", "a", "c"), 0)):
            self.assertEqual(judge_ring(self.JOBS, value), ("need", k), value)

    def test_judge_ring_form(self):
        for value in ODD_VALUES + (["a", "b", "c"], ("a", "b", "c", "a"), ("b", "b"), ("e",), ("a", "b", "e"), "abc", "b",
                                   ("a", None), ("a", ["b"]), ("a", ("b",)), (("a", "b", "c"),), ("a", True)):
            if value not in (("a",), ("a", "b")):
                self.assertEqual(judge_ring(self.JOBS, value), ("form",), value)


class Needs(unittest.TestCase):
    def test_of_one_book(self):
        self.assertEqual([needs_of(WEB, name) for name in "abcdef"],
                         [(), ("a",), ("a",), ("b",), ("c", "d"), ("d", "e")])
        self.assertEqual([needed_by(WEB, name) for name in "abcdef"],
                         [("b", "c"), ("d",), ("e",), ("e", "f"), ("f",), ()])

    def test_by_chance(self):
        chance = random.Random(13)
        for many in (1, 2, 6, 12, 40):
            value = random_web(chance, min(many, 26), 20)
            needs = needs_by_name(value)
            below = {name: naive_hangs(needs, name) for name in needs}
            for name in needs:
                self.assertEqual(needs_of(value, name), needs[name])
                self.assertEqual(needed_by(value, name), tuple(sorted(o for o in needs if name in needs[o])))
                self.assertEqual(hangs_on(value, name), tuple(sorted(below[name])))
                self.assertEqual(hung_on(value, name), tuple(sorted(o for o in needs if name in below[o])))


class Ways(unittest.TestCase):
    # From h down to a there are ways of three, four and five names, several of four.
    SEVERAL = book(job("a"), job("b", ("a",)), job("c", ("a",)), job("d", ("b", "c")), job("e", ("b",)),
                   job("f", ("c", "d")), job("g", ("d", "e")), job("h", ("f", "g")))

    def test_the_least_of_the_shortest(self):
        self.assertEqual(way(self.SEVERAL, "h", "a"), ("h", "f", "c", "a"))
        self.assertEqual(way(self.SEVERAL, "h", "b"), ("h", "f", "d", "b"))
        self.assertEqual(way(self.SEVERAL, "g", "a"), ("g", "d", "b", "a"))
        self.assertEqual(way(self.SEVERAL, "f", "a"), ("f", "c", "a"))

    def test_equal_and_none(self):
        for name in "abcdefgh":
            self.assertEqual(way(self.SEVERAL, name, name), (name,))
        for one, other in (("a", "h"), ("b", "c"), ("e", "f"), ("a", "b")):
            self.assertIsNone(way(self.SEVERAL, one, other))

    def test_by_chance(self):
        chance = random.Random(14)
        for _ in range(60):
            value = random_web(chance, chance.randint(1, 9), 35)
            needs = needs_by_name(value)
            for one in needs:
                for other in needs:
                    ways = all_ways(needs, one, other)
                    due = min(ways, key=lambda names: (len(names), names), default=None)
                    self.assertEqual(way(value, one, other), due)
                    for names in ways:
                        long = None if len(names) == len(due) else ("long", len(due))
                        self.assertEqual(judge_way(value, one, other, names), long)

    def test_judge_way(self):
        for value, due in (
                (("h", "f", "c", "a"), None), (("h", "g", "e", "b", "a"), ("long", 4)), (("h", "f", "d", "c", "a"), ("long", 4)),
                (("h", "g", "d", "b", "a"), ("long", 4)), (("h", "f", "c"), ("ends",)), (("f", "c", "a"), ("ends",)),
                (("a",), ("ends",)), (("h",), ("ends",)), (("a", "c", "f", "h"), ("ends",)), (("h", "a"), ("need", 0)),
                (("h", "f", "a"), ("need", 1)), (("h", "c", "a"), ("need", 0)), (("h", "f", "f", "c", "a"), ("need", 1)),
                (("h", "f", "c", "b", "a"), ("need", 2)), (("h", "a", "f", "a"), ("need", 0)), (("h", "b", "c"), ("ends",))):
            self.assertEqual(judge_way(self.SEVERAL, "h", "a", value), due, value)
        self.assertIsNone(judge_way(self.SEVERAL, "b", "b", ("b",)))
        self.assertEqual(judge_way(self.SEVERAL, "b", "b", ("b", "b")), ("need", 0))

    def test_where_there_is_none(self):
        for value, due in ((("a",), ("ends",)), (("a", "h"), ("need", 0)), (("h", "f", "c", "a"), ("ends",)), (None, ("form",)),
                           (("a", "b", "d", "g", "h"), ("need", 0))):
            self.assertEqual(judge_way(self.SEVERAL, "a", "h", value), due)

    def test_judge_way_form(self):
        for value in ODD_VALUES + (["h", "f", "c", "a"], ("h", "f", "c", "z"), "hfca", ("h", ["f"], "c", "a"), ("h", None),
                                   ("h", True, "a"), (("h", "a"),)):
            if value not in (("a",), ("a", "b")):
                self.assertEqual(judge_way(self.SEVERAL, "h", "a", value), ("form",), value)


class Bounds(unittest.TestCase):
    """[3.6], and somewhat beyond."""

    def test_forty_jobs_and_long_chains(self):
        names = ["n" + chr(97 + k // 26) + chr(97 + k % 26) for k in range(600)]
        jobs = tuple(job(name, names[k - 1:k] if k else ()) for k, name in enumerate(names))
        for many in (40, 300):
            value = ((), jobs[:many])
            self.assertIsNone(judge_book(value))
            self.assertEqual(hangs_on(value, names[many - 1]), tuple(names[:many - 1]))
            self.assertEqual(way(value, names[many - 1], names[0]), tuple(names[:many][::-1]))
            ring = (job(names[0], (names[many - 1],)),) + jobs[1:many]
            self.assertEqual(judge_book(((), ring)), (0, "ring"))
            self.assertEqual(len(ring_of(ring)), many)

    def test_twelve_needs_and_things(self):
        names = ["n" + chr(97 + k) for k in range(13)]
        things = tuple(("t" + chr(97 + k), 999999999) for k in range(12))
        last = job(names[12], names[:12], uses=[(thing, 999999999) for thing, _ in things])
        value = (things, tuple(job(name) for name in names[:12]) + (last,))
        self.assertIsNone(judge_book(value))
        self.assertEqual(needs_of(value, names[12]), tuple(names[:12]))
        self.assertEqual(judge_book((things[1:], value[1])), (12, "units"))


if __name__ == "__main__":
    unittest.main()
