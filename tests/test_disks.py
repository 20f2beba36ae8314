"""[8.3], [8.4], [8.7]: disks, what is left of them when they are cut short, and what is a record."""

import random
import unittest

from effectonce.disks import is_record, mended, torn, words_on, written
from effectonce.errors import BadDisk
from effectonce.seals import records, sealed, word_text
from tests.letter_samples import EXAMPLE, LETTERS, MACHINES, NAMES, NOUGHTS, ONES, PARTS, SORTS, TO_STORE, END, exchanged, near_letters
from tests.samples import ODD_VALUES
from tests.word_oracles import naive_check, random_word

SOME = [("epoch", 5), None, (1, ("take", 1)), "", (), ("x", True, -7)]


def text_of(words):
    return "".join(sealed(word_text(word)) for word in words)


class Disks(unittest.TestCase):
    def assert_bad(self, disk, place):
        with self.assertRaises(BadDisk) as caught:
            words_on(disk)
        self.assertEqual(caught.exception.place, place)

    def test_written_one_behind_another(self):
        self.assertEqual(written("", []), "")
        self.assertEqual(written("", SOME), text_of(SOME))
        self.assertEqual(written(written("", SOME[:2]), SOME[2:]), text_of(SOME))
        self.assertEqual(written("", tuple(SOME)), text_of(SOME))
        self.assertEqual(words_on(text_of(SOME)), tuple(SOME))
        self.assertEqual(repr(words_on(written("", [True, 1, False, 0]))), "(True, 1, False, 0)")
        self.assertEqual(words_on(""), ())

    def test_each_number_of_signs_that_is_kept(self):
        for disk in ("", text_of(SOME[:1]), text_of(SOME[:1]) + "13:(t5", text_of(SOME[:2]) + "x", "1", "\n"):
            whole = mended(disk)
            before = words_on(disk)
            text = text_of(SOME)
            ends = [len(text_of(SOME[:k])) for k in range(len(SOME) + 1)]
            for keep in range(len(text) + 9):
                cut = torn(disk, SOME, keep)
                self.assertEqual(cut, whole + text[:keep])
                many = max(k for k, end in enumerate(ends) if end <= keep)
                self.assertEqual(words_on(cut), before + tuple(SOME[:many]))
                self.assertEqual(mended(cut), whole + text[:ends[many]])
                self.assertEqual(mended(mended(cut)), mended(cut))
                # Whatever is written then stands right behind these.
                self.assertEqual(words_on(written(cut, [7, "z"])), before + tuple(SOME[:many]) + (7, "z"))
                self.assertEqual(written(cut, [7]), mended(cut) + sealed("i7;"))
                self.assertEqual(torn(cut, [7], 3), mended(cut) + sealed("i7;")[:3])
            self.assertEqual(torn(disk, SOME, 10 ** 9), written(disk, SOME))

    def test_the_torn_end(self):
        disk = text_of(SOME[:2])
        for end in ("", "1", "13", "13:", "13:(t5:epochi6;)", "13:(t5:epochi6;)1234", "x", "\n", "0:0000", "0:00001", "00:00000", "2:\n\n00000"):
            self.assertEqual(mended(disk + end), disk)
            self.assertEqual(words_on(disk + end), tuple(SOME[:2]))
            self.assertEqual(written(disk + end, [3]), disk + sealed("i3;"))
            self.assertEqual(torn(disk + end, [3], 4), disk + "3:i3")
            self.assertEqual(torn(disk + end, [3], 0), disk)
            self.assertEqual(torn(disk + end, [], 5), disk)
            self.assertEqual(written(disk + end, []), disk)

    def test_a_torn_end_that_begins_like_a_seal(self):
        # Without mending, what is written behind "1:" or "8:" would come to stand within that seal.
        for end in ("1:", "8:", "3", "12:i1;", sealed("i3;")[:-1]):
            self.assertEqual(words_on(written(end, [1, 2])), (1, 2))
            self.assertEqual(words_on(written(text_of([9]) + end, [1, 2])), (9, 1, 2))

    def test_bad_disk(self):
        good, bad = sealed("i1;"), sealed("i01;")
        for disk, place in ((sealed("x"), 0), (sealed(""), 0), (good + bad, 1), (bad + good, 0), (good + bad + bad, 1), (good * 7 + sealed("NN"), 7),
                            (good + sealed("(") + "13:(t5", 1), (good + sealed("i1") + good, 1), (sealed("N ") + "x", 0)):
            self.assert_bad(disk, place)
            # These go by the seals alone, and raise nothing.
            whole = disk[:len(disk) - len({"13:(t5": "13:(t5"}.get(disk[-6:], "x" if disk[-1:] == "x" else ""))]
            self.assertEqual(mended(disk), whole)
            self.assertEqual(written(disk, [5]), whole + sealed("i5;"))
            self.assertEqual(torn(disk, [5], 2), whole + "3:")
            self.assert_bad(written(disk, [5]), place)
        self.assertEqual(words_on(good + bad[:-1]), (1,))

    def test_by_chance(self):
        chance = random.Random(131)
        for _ in range(300):
            disk, stand = "", ()
            for _ in range(5):
                words = [random_word(chance, 2) for _ in range(chance.randrange(4))]
                keep = chance.randrange(len(text_of(words)) + 3)
                disk = torn(disk, words, keep)
                many = max(k for k in range(len(words) + 1) if len(text_of(words[:k])) <= keep)
                stand += tuple(words[:many])
                self.assertEqual(repr(words_on(disk)), repr(stand))
                self.assertEqual(mended(disk), text_of(stand))

    def test_long_disks(self):
        words = [("step", k + 1, k) for k in range(300)]
        disk = written("", words)
        self.assertEqual(words_on(disk), tuple(words))
        self.assertEqual(words_on(disk[:-1]), tuple(words[:-1]))
        long = written("", ["x" * 4000] * 14 + [10 ** 3999])
        self.assertEqual(words_on(long), ("x" * 4000,) * 14 + (10 ** 3999,))
        self.assertEqual(mended("9" * 4000 + ":"), "")
        deep = "(" * 400 + ")" * 400
        self.assertEqual(word_text(words_on(sealed(deep))[0]), deep)
        self.assert_bad(sealed("(" * 400), 0)
        self.assertEqual(records([deep]), sealed(deep))
        self.assertEqual(sealed("ab")[-5:], naive_check("ab"))

    def test_no_list_is_modified(self):
        words = list(SOME)
        written("", words)
        torn("", words, 5)
        self.assertEqual(words, SOME)


STEPS = ONES
RECORDS = {
    "took": (("took", "a", 3, 1, (("b", 4),)), (NAMES, ONES, ONES, SORTS["results"])),
    "step": (("step", 3, 2), (ONES, STEPS)),
    "gone": (("gone", 3), (ONES,)),
    "epoch": (("epoch", 3), (ONES,)),
}


class IsRecord(unittest.TestCase):
    def assert_record(self, whose, value):
        for who in ("store", "keeper", "machine"):
            self.assertIs(is_record(who, value), who == whose, (who, value))

    def test_each_part_at_its_bounds_and_just_beyond(self):
        for word, (record, sorts) in RECORDS.items():
            whose = "keeper" if word == "epoch" else "machine"
            self.assert_record(whose, record)
            for k, (good, bad) in enumerate(sorts):
                for value in good:
                    self.assert_record(whose, exchanged(record, k + 1, value))
                for value in bad:
                    self.assert_record(None, exchanged(record, k + 1, value))
            for near in (record[:-1], record + (1,), list(record), record[1:], (record[0] + "s",) + record[1:], (record[0].upper(),) + record[1:],
                         (None,) + record[1:], ([word],) + record[1:], ((word,),) + record[1:], word, (record,), (word,), {word: 1}):
                self.assert_record(None, near)

    def test_ticks(self):
        self.assert_record("store", ("tick",))
        for near in (("tick", 1), ["tick"], "tick", ("tick", ("take", 1)), ("Tick",), ("ticks",), (("tick",),), ("tick", None), (("tick",), 1)):
            self.assert_record(None, near)

    def test_any_letter_to_the_store_and_none_of_the_others(self):
        for letter in LETTERS:
            self.assert_record("store" if letter in TO_STORE + (END,) else None, (3, letter))
        for word in PARTS:
            for value, _, right in near_letters(word):
                self.assert_record("store" if right and EXAMPLE[word] in TO_STORE + (END,) else None, (0, value))

    def test_times(self):
        for value in NOUGHTS[0]:
            self.assert_record("store", (value, ("take", 1)))
        for value in NOUGHTS[1]:
            self.assert_record(None, (value, ("take", 1)))
        for near in ((3, ("take", 1), 1), (3,), [3, ("take", 1)], (3, ["take", 1]), (("take", 1), 3), ("take", 1), (3, 3), (3, ()), (3, None),
                     (3, ("tick",)), (3, (3, ("take", 1)))):
            self.assert_record(None, near)

    def test_odd_values(self):
        for value in ODD_VALUES + (0, (0,), (0, 0), ("epoch",), ("epoch", ()), ("took",), ("gone", {}), ({}, {}), ((), 1), ([], [])):
            self.assert_record(None, value)
        for m in MACHINES[0]:
            self.assert_record("store", (0, ("end", m, "a", 1, 1, ("failed",))))


if __name__ == "__main__":
    unittest.main()
