"""Part 8: [8.5], [8.6], [8.7], coming back from disks, however they were cut."""

import random
import unittest

from effectonce.disks import mended, torn, words_on, written
from effectonce.errors import BadDisk
from effectonce.keeper import keeper_back
from effectonce.machines import fresh_machine, machine_again, machine_hears, machine_works
from effectonce.recovery import kept_letters, recovered_keeper, recovered_machine, recovered_store
from effectonce.seals import sealed
from effectonce.store import new_store, store_again, store_hears, ticked
from tests.letter_samples import LETTERS
from tests.samples import book, job
from tests.store_oracles import Rows, random_letter, store_book

PEN = (("pen", 1),)
BOOK = book(job("a", uses=PEN, tries=2), job("b", ("a",), uses=PEN, start=1), job("c", ("b",)), things=PEN)
# Each changes the store, at its time.
RECORDS = [(0, ("take", 2)), (0, ("grant", 2, "a", 3, 1)), ("tick",), (1, ("end", 1, "a", 3, 1, ("failed",))), (1, ("take", 4)),
           (1, ("grant", 4, "a", 5, 0)), ("tick",), ("tick",), (3, ("free", 4, "a", 5)), (3, ("grant", 4, "a", 6, 0)),
           (3, ("end", 0, "a", 6, 2, ("failed",))), (3, ("bar", 4, "b", "a")), (3, ("bar", 4, "c", "b"))]
MACHINE_RECORDS = [("took", "a", 5, 1, ()), ("step", 5, 1), ("took", "b", 7, 2, (("a", None),)), ("step", 5, 2), ("gone", 5), ("step", 7, 1)]
BAD_TEXT = sealed("i01;")


def store_by(records):
    """The store behind records, by what part 7 tells of ticks and letters."""
    store = new_store(BOOK)
    for each in records:
        store = ticked(store) if each == ("tick",) else store_hears(store, each[1])[0]
    return store


class Bad(unittest.TestCase):
    def assert_bad(self, place, back, *arguments):
        with self.assertRaises(BadDisk) as caught:
            back(*arguments)
        self.assertEqual(caught.exception.place, place)


class Stores(Bad):
    def test_of_records_and_their_beginnings(self):
        for k in range(len(RECORDS) + 1):
            self.assertEqual(recovered_store(BOOK, written("", RECORDS[:k])), store_by(RECORDS[:k]))
            self.assertEqual(recovered_store(BOOK, written("", RECORDS[:k])), store_again(BOOK, RECORDS[:k]))
        self.assertEqual(recovered_store(BOOK, ""), new_store(BOOK))
        self.assertEqual(recovered_store(BOOK, written("", RECORDS))["barred"], {"b": "a", "c": "b"})

    def test_a_torn_end_is_left_out(self):
        whole = written("", RECORDS)
        ends = [len(written("", RECORDS[:k])) for k in range(len(RECORDS) + 1)]
        for keep in range(len(whole) + 1):
            many = max(k for k, end in enumerate(ends) if end <= keep)
            self.assertEqual(recovered_store(BOOK, whole[:keep]), store_by(RECORDS[:many]))
        for end in ("x", "12", "\n", "0:00001", "7:i01"):
            self.assertEqual(recovered_store(BOOK, whole + end), store_by(RECORDS))

    def test_a_word_that_is_no_record_of_a_store(self):
        for word in (("epoch", 1), ("step", 3, 1), ("gone", 3), 7, None, (), ("tick", 1), (1, ("taken", 1)), (1, ("work", 1, 0, "a", 1, 1, ())),
                     (1, ("take", 0)), (True, ("take", 9)), (1, ("take", True)), (-1, ("take", 9)), (1, 2, 3), "tick"):
            for k in range(5):
                records = RECORDS[:k] + [word] + RECORDS[k:]
                self.assert_bad(k, recovered_store, BOOK, written("", records))
                self.assert_bad(k, kept_letters, written("", records))

    def test_another_time_than_the_store_has_then(self):
        for k, each in enumerate(RECORDS):
            if each != ("tick",):
                for time in {0, each[0] - 1, each[0] + 1, 10 ** 9} - {each[0], -1}:
                    changed = RECORDS[:k] + [(time, each[1])] + RECORDS[k + 1:]
                    self.assert_bad(k, recovered_store, BOOK, written("", changed))
                    self.assertEqual(len(kept_letters(written("", changed))), 10)
        self.assert_bad(0, recovered_store, BOOK, written("", [(1, ("take", 1))]))
        # A tick too few, or one too many.
        self.assert_bad(2, recovered_store, BOOK, written("", RECORDS[:2] + RECORDS[3:]))
        self.assert_bad(4, recovered_store, BOOK, written("", RECORDS[:2] + [("tick",)] + RECORDS[2:]))

    def test_a_letter_that_does_not_change_it(self):
        for k, time, letter in ((1, 0, ("take", 2)), (1, 0, ("take", 1)), (1, 0, ("ask", 2)), (2, 0, ("grant", 2, "a", 3, 1)),
                                (2, 0, ("grant", 2, "b", 4, 1)), (2, 0, ("end", 1, "a", 4, 1, ("failed",))), (2, 0, ("free", 2, "a", 2)),
                                (4, 1, ("end", 1, "a", 3, 1, ("failed",))), (5, 1, ("grant", 2, "a", 9, 0)), (12, 3, ("bar", 4, "b", "a")),
                                (0, 0, ("ask", 1)), (0, 0, ("grant", 1, "a", 1, 0)), (2, 0, ("grant", 2, "z", 4, 1))):
            records = RECORDS[:k] + [(time, letter)] + RECORDS[k:]
            self.assert_bad(k, recovered_store, BOOK, written("", records))
            self.assertIn(letter, kept_letters(written("", records)))

    def test_the_least_number_of_several(self):
        tail = [("epoch", 1)]
        self.assert_bad(1, recovered_store, BOOK, written("", [RECORDS[0], (0, ("take", 2))] + tail))
        self.assert_bad(1, recovered_store, BOOK, written("", [RECORDS[0], (7, ("take", 3))] + tail))
        self.assert_bad(1, recovered_store, BOOK, written("", [RECORDS[0]] + tail + [(7, ("take", 3)), (0, ("take", 2))]))

    def test_first_what_words_on_raises(self):
        disk = written("", [("epoch", 1), (5, ("take", 1))]) + BAD_TEXT
        for back, arguments in ((recovered_store, (BOOK, disk)), (recovered_keeper, (disk,)), (recovered_machine, (0, disk)), (kept_letters, (disk,)),
                                (recovered_store, (BOOK, disk + sealed("x")))):
            self.assert_bad(2, back, *arguments)
        self.assert_bad(0, recovered_store, BOOK, BAD_TEXT)
        self.assert_bad(0, recovered_store, BOOK, disk[:-1])
        self.assertEqual(kept_letters(written("", RECORDS[:1]) + BAD_TEXT[:-1]), (("take", 2),))

    def test_long_runs_that_come_back(self):
        chance = random.Random(211)
        for _ in range(12):
            told = store_book(chance, chance.randint(1, 6))
            rows, store, disk = Rows(told), new_store(told), ""
            for _ in range(90):
                if chance.randrange(6) == 0:
                    rows.time += 1
                    store, disk = ticked(store), written(disk, [("tick",)])
                else:
                    letter = random_letter(chance, rows)
                    rows.hear(letter)
                    now = store_hears(store, letter)[0]
                    if now["moment"] > store["moment"]:
                        disk = written(disk, [(store["time"], letter)])
                    store = now
                if chance.randrange(5) == 0:
                    self.assertEqual(recovered_store(told, disk), store)
                    store = recovered_store(told, disk)
            self.assertEqual(recovered_store(told, disk), store)
            self.assertEqual(store, rows.fields())


class Keepers(Bad):
    def test_the_greatest_and_not_the_last(self):
        for epochs, due in (((), 0), ((1,), 1), ((1, 2, 3), 3), ((4, 9, 2), 9), ((10 ** 40, 5), 10 ** 40), ((7, 7), 7), ((9, 10), 10)):
            self.assertEqual(recovered_keeper(written("", [("epoch", n) for n in epochs])), due)

    def test_a_torn_end_is_left_out(self):
        disk = written("", [("epoch", 3), ("epoch", 8)])
        for keep in range(len(disk) + 1):
            due = 8 if keep == len(disk) else 3 if keep >= len(disk) // 2 else 0
            self.assertEqual(recovered_keeper(disk[:keep]), due)

    def test_records_of_another_sort(self):
        for word in (("tick",), (0, ("take", 1)), ("gone", 1), ("epoch", 0), ("epoch", True), ("epoch",), ("epoch", 1, 2), 1, None):
            for k in range(3):
                words = [("epoch", 2)] * 2
                self.assert_bad(k, recovered_keeper, written("", words[:k] + [word] + words[k:]))

    def test_one_that_comes_back_takes_an_epoch_above_it(self):
        disk, greatest = "", 0
        for keep in (99, 0, 5, 99, 20, 21, 99):
            keeper, records, letters = keeper_back(BOOK, 2, recovered_keeper(disk))
            disk = torn(disk, records, keep)
            if keep == 99:
                self.assertGreater(keeper["epoch"], greatest)
                self.assertEqual(letters, (("take", keeper["epoch"]),))
                greatest = keeper["epoch"]
            self.assertEqual(recovered_keeper(disk), max([greatest] + [word[1] for word in words_on(disk)]))
        self.assertGreaterEqual(recovered_keeper(disk), 3)


class Machines(Bad):
    def test_of_records_and_their_beginnings(self):
        for m in (0, 6):
            for k in range(len(MACHINE_RECORDS) + 1):
                disk = written("", MACHINE_RECORDS[:k])
                self.assertEqual(recovered_machine(m, disk), machine_again(m, MACHINE_RECORDS[:k]))
                self.assertEqual(recovered_machine(m, disk + "9:(t4:"), machine_again(m, MACHINE_RECORDS[:k]))
        self.assertEqual(recovered_machine(4, ""), fresh_machine(4))
        self.assertEqual(recovered_machine(4, written("", MACHINE_RECORDS)), {"machine": 4, "works": {7: ("b", 2, (("a", None),), 1)}, "gone": (5,)})

    def test_records_that_change_nothing(self):
        twice = [each for each in MACHINE_RECORDS for _ in range(2)]
        self.assertEqual(recovered_machine(1, written("", twice)), machine_again(1, MACHINE_RECORDS))
        more = MACHINE_RECORDS + [("took", "a", 5, 9, ()), ("step", 5, 7), ("step", 99, 1), ("took", "zz", 7, 1, ())]
        self.assertEqual(recovered_machine(1, written("", more)), machine_again(1, MACHINE_RECORDS))

    def test_records_of_another_sort(self):
        for word in (("tick",), (0, ("take", 1)), ("epoch", 1), ("step", 5, 0), ("took", "a", 5, 1), ("gone", 0), (), "gone", None, 5):
            for k in range(4):
                words = MACHINE_RECORDS[:k] + [word] + MACHINE_RECORDS[k:]
                self.assert_bad(k, recovered_machine, 2, written("", words))


class Cut(Bad):
    """[8.6]: what is cut at each number of signs, again and again, while it goes on behind it."""

    def test_a_store(self):
        for first in range(0, len(written("", RECORDS)) + 2, 3):
            disk, store, many = "", new_store(BOOK), 0
            cuts = [first, 0, 7, 40, 3, 80]
            while many < len(RECORDS):
                # All that is left is on its way to the disk when it falls.
                disk = torn(disk, RECORDS[many:], cuts[0] if len(cuts) == 1 else cuts.pop(0))
                many = len(words_on(disk))
                store = recovered_store(BOOK, disk)
                self.assertEqual(store, store_by(RECORDS[:many]))
                # It goes on behind what came back.
                if many < len(RECORDS):
                    each = RECORDS[many]
                    store = ticked(store) if each == ("tick",) else store_hears(store, each[1])[0]
                    disk = written(disk, [each])
                    many += 1
                    self.assertEqual(recovered_store(BOOK, disk), store)
            self.assertEqual(recovered_store(BOOK, disk), store_by(RECORDS))
            self.assertEqual(mended(disk), written("", RECORDS))

    def test_a_keeper(self):
        length = len(written("", [("epoch", 1)]))
        for first in range(length + 1):
            disk, whole = "", []
            for keep in (first, length, first, first, 0, length - 1, length):
                keeper, records, letters = keeper_back(BOOK, 2, recovered_keeper(disk))
                # Behind all that stands whole; what was cut is not missed, as its letter did not go out.
                self.assertEqual(records, (("epoch", max(whole, default=0) + 1),))
                disk = torn(disk, records, keep)
                whole += [keeper["epoch"]] if keep >= length else []
                self.assertEqual(words_on(disk), tuple(("epoch", n) for n in whole))
                self.assertEqual((recovered_keeper(disk), letters), (max(whole, default=0), (("take", keeper["epoch"]),)))
            self.assertEqual(whole, list(range(1, len(whole) + 1)))

    def test_a_machine(self):
        told = book(job("a", length=2), job("b", ("a",), length=3))
        letters = [("work", 1, 2, "b", 4, 1, (("a", 5),)), ("work", 1, 2, "a", 7, 1, ()), None, None, None, ("ended", 2, "b", 4), None, None,
                   ("refused", 2, "a", 7)]
        for keep in range(40):
            machine, disk, at = fresh_machine(2), "", 0
            for many in range(200):
                if at == len(letters):
                    break
                now, _, records = machine_works(machine, told) if letters[at] is None else machine_hears(machine, told, letters[at])
                if many % 3 == 1:
                    # It falls in this event, and comes back with all of it, or with nothing.
                    disk = torn(disk, records, keep) if records else disk
                    back = recovered_machine(2, disk)
                    self.assertIn(back, (machine, now))
                    at += 1 if back == now else 0
                    machine = back
                else:
                    disk = written(disk, records)
                    machine, at = now, at + 1
                self.assertEqual(recovered_machine(2, disk), machine)
            self.assertEqual((at, machine), (9, {"machine": 2, "works": {}, "gone": (4, 7)}))

    def test_kept_letters(self):
        letters = tuple(each[1] for each in RECORDS if each != ("tick",))
        self.assertEqual(kept_letters(written("", RECORDS)), letters)
        self.assertEqual(kept_letters(written("", RECORDS) + "12:(t"), letters)
        self.assertEqual(kept_letters(written("", RECORDS)[:-1]), letters[:-1])
        self.assertEqual([kept_letters(""), kept_letters(written("", [("tick",)] * 3))], [(), ()])
        # It hears nothing: any letters to the store, at any times.
        some = [(9 - k, letter) for k, letter in enumerate(LETTERS[:6])]
        self.assertEqual(kept_letters(written("", some)), LETTERS[:6])
        for letter in LETTERS[6:]:
            self.assert_bad(6, kept_letters, written("", some + [(0, letter)]))
        self.assert_bad(0, kept_letters, written("", [("epoch", 1)]))


class Bounds(unittest.TestCase):
    """[8.7]"""

    def test_long_disks_and_long_integers(self):
        told = book(*[job("j" + chr(97 + k // 26) + chr(97 + k % 26), tries=5) for k in range(40)])
        records = [(0, ("take", 1))]
        for k in range(140):
            records += [(0, ("grant", 1, told[1][k % 40][0], k + 1, k % 8)), (0, ("free", 1, told[1][k % 40][0], k + 1))]
        records.append((0, ("grant", 1, "jaa", 500, 0)))
        records.append((0, ("end", 0, "jaa", 500, 1, ("done", -10 ** 3999))))
        store = recovered_store(told, written("", records))
        self.assertEqual((store["moment"], store["ends"]["jaa"]), (283, (("done", 500, 282, 0, 283, -10 ** 3999),)))
        works = [("took", "jaa", k + 1, 1, (("x", 10 ** 3999),) if k == 7 else ()) for k in range(300)]
        self.assertEqual(len(recovered_machine(0, written("", works))["works"]), 300)


if __name__ == "__main__":
    unittest.main()
