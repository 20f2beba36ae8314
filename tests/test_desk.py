"""[14.4], [14.5]: a desk, and what it says."""

import random
import unittest
import unittest.mock

from effectonce.books import book_text, read_book
from effectonce.desk import Desk
from effectonce.house import House
from effectonce.scripts import event_text
from tests.samples import ODD_VALUES, book, job
from tests.world_samples import MOODS, random_event, world_book

FAILS = ("demand", ("value", 0), ("value", 1))
BOOK = book(job("a", (), ("value", 2), uses=(("pen", 1),)), job("b", ("a",), ("plus", ("result", "a"), ("attempt",)), length=2, tries=3),
            job("c", (), ("value", "x y"), uses=(("pen", 1),), start=1), job("d", (), FAILS, tries=2), job("e", ("a", "d")), job("f", ("e",)),
            job("g", ("a", "c"), ("value", None), mode="ended"), things=(("pen", 1),))


class Test(unittest.TestCase):
    def said(self, desk, *lines):
        return [desk.say(line) for line in lines]


class Deeds(Test):
    def test_events(self):
        desk = Desk(BOOK, 2)
        lines = ("tick", "hear 0", "keeper", "again", "lapse a", "work 1", "lose 7", "double 0", "fall store", "back store", "fall machine 1",
                 "torn 12 hear 0", "torn 0 back keeper", "lapse zzz", "hear " + "9" * 400)
        self.assertEqual(self.said(desk, *lines), [str(k + 1) for k in range(len(lines))])
        self.assertEqual([event_text(deed) for deed in desk.house().deeds()], list(lines))

    def test_calm_undo_redo(self):
        desk = Desk(BOOK, 2)
        self.assertEqual(self.said(desk, "undo", "redo"), ["refused", "refused"])
        self.assertEqual(self.said(desk, "tick", "calm", "undo", "undo", "undo", "redo", "redo", "redo"), ["1", "2", "1", "0", "refused", "1", "2", "refused"])
        self.assertEqual(self.said(desk, "undo", "tick", "redo"), ["1", "2", "refused"])
        self.assertEqual(desk.house().deeds(), [("tick",), ("tick",)])

    def test_the_house_is_the_same_object(self):
        desk = Desk(BOOK, 2)
        self.assertIs(desk.house(), desk.house())
        self.assertIsInstance(desk.house(), House)
        desk.house().do(("tick",))
        self.assertEqual(self.said(desk, "stand", "tick"), ["time 1 moment 0 epoch 0 fence 0 letters 1", "2"])
        desk.house().undo()
        desk.house().undo()
        self.assertEqual(self.said(desk, "redo", "redo", "redo"), ["1", "2", "refused"])
        self.assertIs(desk.house(), desk.house())

    def test_what(self):
        desk = Desk(BOOK, 2)
        desk.say("tick")
        lines = ("", " ", "x", "Tick", "tick ", " tick", "tick\n", "ticks", "calm ", "Calm", "calm 1", "undo 1", "redo\n", "outcomes ", "held 1", "left\n",
                 "down store", "stand ", "right?", "book 1", "why", "why ", "why z", "why A", "why a ", "why  a", "why a b", " why a", "why\ta", "whya", "why pen",
                 "hear -1", "hear 01", "hear x", "work 2", "work 99", "fall machine 2", "back machine 7", "torn 3 lose 0", "torn 3 work 2", "torn 1 back machine 2",
                 "lapse A", "lapse abcdefghi", "hear 1\nhear 2", "x" * 8000, "hear " + "9" * 401, "calm\ncalm", "('tick',)", "nothing", "what", "refused")
        self.assertEqual(self.said(desk, *lines), ["what"] * len(lines))
        for value in ODD_VALUES + (("tick",), ["tick"], ("calm",), {"tick": 1}, [("tick",)]):
            self.assertEqual(desk.say(value), "what")
        self.assertEqual(desk.house().deeds(), [("tick",)])


class Shows(Test):
    def holding(self, *more):
        """A desk whose store holds a and d, at the time 0."""
        desk = Desk(BOOK, 2)
        self.said(desk, *["hear 0"] * 4, "keeper", "hear 0", "hear 0", "hear 0", *more)
        return desk

    def test_at_the_beginning(self):
        desk = Desk(BOOK, 2)
        self.assertEqual(self.said(desk, "outcomes", "held", "left", "down", "stand", "right"),
                         ["nothing", "nothing", "a, b, c, d, e, f, g", "nothing", "time 0 moment 0 epoch 0 fence 0 letters 1", "yes"])
        self.assertEqual(desk.say("book"), book_text(BOOK))
        self.assertEqual(read_book(desk.say("book")), BOOK)
        self.assertEqual(desk.say("why c"), "time 1")

    def test_held_and_down(self):
        desk = self.holding()
        self.assertEqual(desk.say("held"), "a fence 1 machine 0 attempt 1\nd fence 2 machine 1 attempt 1")
        self.assertEqual(desk.say("stand"), "time 0 moment 3 epoch 1 fence 2 letters 3")
        self.said(desk, "fall machine 1", "fall keeper", "fall store", "fall machine 0")
        self.assertEqual(desk.say("down"), "store, keeper, machine 0, machine 1")
        self.assertEqual(desk.say("held"), "a fence 1 machine 0 attempt 1\nd fence 2 machine 1 attempt 1")

    def test_why_of_each_kind(self):
        desk = self.holding()
        self.assertEqual(self.said(desk, *["why " + name for name in "abcdefg"]), [
            "held fence 1 machine 0 attempt 1", "needs a", "time 1", "held fence 2 machine 1 attempt 1", "needs a, d", "needs e", "needs a, c"])
        desk.say("tick")
        self.assertEqual(desk.say("why c"), "units pen 0 1")
        self.said(desk, *["hear 0"] * 5, "work 0", "work 1", "hear 0", "hear 0")
        self.assertEqual(self.said(desk, *["why " + name for name in "abcd"]), ["done fence 1 attempt 1 value 2 of -", "may", "may", "may"])
        desk.say("calm")
        self.assertEqual(self.said(desk, *["why " + name for name in "bcef"]), [
            "done fence 5 attempt 1 value 3 of a 2", 'done fence 3 attempt 1 value "x y" of -', "barred e, d", "barred f, e, d"])
        self.assertEqual(self.said(desk, "why d", "why g"), ["failed fences 2, 4", 'done fence 6 attempt 1 value () of a 2, c "x y"'])
        self.assertEqual(desk.say("outcomes"), 'a done 1 2\nb done 1 3\nc done 1 "x y"\nd failed 2\ne barred d\nf barred e\ng done 1 ()')
        self.assertEqual(self.said(desk, "left", "held", "right", "down"), ["nothing", "nothing", "yes", "nothing"])

    def test_bar_and_results_of_jobs_that_are_not_done(self):
        told = book(job("a", (), FAILS), job("b", ("a",)), job("c", ("a",), ("value", -5), mode="ended"))
        desk = Desk(told, 1)
        self.said(desk, *["hear 0"] * 4, "keeper", *["hear 0"] * 5, "work 0", "hear 0")
        self.assertEqual(self.said(desk, "why a", "why b", "why c"), ["failed fences 1", "bar a", "may"])
        desk.say("calm")
        self.assertEqual(self.said(desk, "why b", "why c", "outcomes"), ["barred b, a", "done fence 2 attempt 1 value -5 of a ()",
                                                                        "a failed 1\nb barred a\nc done 1 -5"])

    def test_several_units(self):
        told = book(job("a", uses=(("pen", 2), ("saw", 1))), job("b", uses=(("pen", 3), ("saw", 2))), things=(("axe", 0), ("pen", 4), ("saw", 2)))
        desk = Desk(told, 2)
        self.said(desk, *["hear 0"] * 4, "keeper", "hear 0")
        self.assertEqual(desk.say("why b"), "units pen 2 3, saw 1 2")

    def test_not_right(self):
        # No deeds come to such a world: so its judge is told to find a fault.
        desk = Desk(BOOK, 2)
        with unittest.mock.patch("effectonce.house.judge_world", return_value=("disk",)):
            self.assertEqual(desk.say("right"), "no")
            self.assertIs(desk.house().right(), False)
        self.assertEqual(desk.say("right"), "yes")

    def test_without_jobs(self):
        desk = Desk(book(), 1)
        self.assertEqual(self.said(desk, "left", "outcomes", "book", "calm", "right", "why a"), ["nothing", "nothing", "things -", "1", "yes", "what"])

    def test_long_integers(self):
        told = book(job("a", (), ("value", 10 ** 8)), *[job(chr(98 + k), (chr(97 + k),), ("times", ("result", chr(97 + k)), ("result", chr(97 + k))))
                                                         for k in range(9)])
        desk = Desk(told, 1)
        desk.say("calm")
        self.assertEqual(desk.say("outcomes").split("\n")[9], "j done 1 1" + "0" * 4096)
        self.assertEqual(desk.say("why j"), "done fence 10 attempt 1 value 1" + "0" * 4096 + " of i 1" + "0" * 2048)


class ByChance(Test):
    def test_against_the_house(self):
        chance = random.Random(801)
        for number in range(16):
            told = world_book(chance, 4)
            desk, twin = Desk(told, 2), House(told, 2)
            for _ in range(60):
                event = random_event(chance, twin.world(), MOODS[number % 4])
                self.assertEqual(desk.say(event_text(event)), str(twin.do(event)))
                self.assertEqual((desk.house().world(), desk.house().deeds()), (twin.world(), twin.deeds()))
                self.assertEqual(desk.say("left"), ", ".join(twin.left()) or "nothing")
                self.assertEqual(desk.say("down"), ", ".join(" ".join(str(part) for part in who) for who in twin.down()) or "nothing")
                self.assertEqual(desk.say("stand"), "time %d moment %d epoch %d fence %d letters %d" % twin.stand())
                self.assertEqual(desk.say("held"), "\n".join("%s fence %d machine %d attempt %d" % row for row in twin.held()) or "nothing")
                for name, outcome in twin.outcomes():
                    self.assertIn(" ".join([name] + [str(part) for part in outcome[:2]]), desk.say("outcomes"))
                for name, *_ in told[1]:
                    self.assertEqual(desk.say("why " + name).split(" ")[0], twin.why(name)[0])
                self.assertEqual(desk.say("right"), "yes")


if __name__ == "__main__":
    unittest.main()
