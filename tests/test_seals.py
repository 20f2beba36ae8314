"""[8.1], [8.2], [8.7]: words and their texts, checks, seals, records."""

import random
import re
import unittest

from effectonce.errors import BadText
from effectonce.seals import check_of, read_records, read_word, records, sealed, word_text
from tests.word_oracles import (SIGNS, naive_check, naive_read, naive_records, naive_word_text, random_text, random_word)

TOLD = (
    (None, "N"), (True, "T"), (False, "F"), (0, "i0;"), (1, "i1;"), (-1, "i-1;"), (10, "i10;"), (-7, "i-7;"),
    (10 ** 30, "i1" + "0" * 30 + ";"), ("", "t0:"), ("a", "t1:a"), ("12", "t2:12"), ("a:b", "t3:a:b"), ("()", "t2:()"),
    (")", "t1:)"), ("i1;", "t3:i1;"), ("t0:", "t3:t0:"), (" ", "t1: "), ("~" * 12, "t12:" + "~" * 12), ('"\\%', 't3:"\\%'),
    ((), "()"), ((None,), "(N)"), ((True, 1, False, 0), "(Ti1;Fi0;)"), (((),), "(())"), (((), ((),)), "(()(()))"),
    ((-7, "a b", (), None), "(i-7;t3:a b()N)"), (("(", (")", 5)), "(t1:((t1:)i5;))"),
)


def place_of(text):
    """The place of the BadText that reading raises, None if it raises none."""
    try:
        read_word(text)
        return None
    except BadText as error:
        return error.place


def nested(deep, word):
    for _ in range(deep):
        word = (word,)
    return word


class WordTexts(unittest.TestCase):
    def test_each_kind_there_and_back(self):
        for word, text in TOLD:
            self.assertEqual(word_text(word), text)
            self.assertEqual(repr(read_word(text)), repr(word))

    def test_true_and_false_are_not_1_and_0(self):
        for word in (True, False, 1, 0, (True, 1), (1, True), (0, False)):
            self.assertEqual(repr(read_word(word_text(word))), repr(word))
        self.assertEqual(len({word_text(word) for word in (True, 1, False, 0)}), 4)

    def test_each_sign(self):
        for sign in SIGNS:
            self.assertEqual(word_text(sign), "t1:" + sign)
            self.assertEqual(read_word("t1:" + sign), sign)

    def test_by_chance(self):
        chance = random.Random(111)
        seen = {}
        for _ in range(3000):
            word = random_word(chance, 4)
            text = word_text(word)
            self.assertEqual(text, naive_word_text(word))
            self.assertEqual(repr(read_word(text)), repr(word))
            self.assertEqual(seen.setdefault(text, repr(word)), repr(word))

    def test_no_text_is_a_beginning_of_another(self):
        chance = random.Random(112)
        texts = sorted({word_text(random_word(chance, 3)) for _ in range(2000)})
        for k in range(1, len(texts)):
            self.assertFalse(texts[k].startswith(texts[k - 1]))


class BadWords(unittest.TestCase):
    def test_told_places(self):
        for text, place in (("", 0), ("x", 0), (")", 0), (" N", 0), ("n", 0), ("1", 0), ("NN", 1), ("N ", 1), ("TF", 1), ("i", 1), ("i;", 1),
                            ("ix", 1), ("i+1;", 1), ("i-", 2), ("i-0;", 2), ("i-;", 2), ("i--1;", 2), ("i0", 2), ("i00;", 2), ("i07;", 2), ("i12", 3),
                            ("i12x;", 3), ("i1 ;", 2), ("i1;;", 3), ("i1;N", 3), ("t", 1), ("t:", 1), ("t-1:", 1), ("t1", 2), ("t1a", 2), ("t01:a", 2),
                            ("t0:a", 3), ("t1:", 3), ("t1:ab", 4), ("t2:a", 4), ("t99999999999999999999:abc", 25), ("t3:a\nb", 4), ("t1:\x7f", 3),
                            ("t1:\xe9", 3), ("t2:a\t", 4), ("(", 1), ("(N", 2), ("(N))", 3), ("())", 2), ("(x)", 1), ("((N)", 4), ("(i07;)", 3),
                            ("(t5:a)", 6), ("(t2:a)", 6), ("(t1:a))", 6), ("[]", 0), ("(N,N)", 2), ("i\xb2;", 1), ("i1\u0661;", 2), ("t\u0661:a", 1)):
            self.assertEqual(place_of(text), place, text)
            self.assertEqual(naive_read(text), ("bad", place), text)

    def test_cut_short(self):
        for word, text in TOLD:
            for keep in range(len(text)):
                self.assertEqual(place_of(text[:keep]), keep, text[:keep])

    def test_something_behind_the_end(self):
        for word, text in TOLD:
            for more in ("N", " ", ")", "(", "i1;", "\n", "0", ";", "t0:"):
                self.assertEqual(place_of(text + more), len(text))

    def test_a_sign_put_in_left_out_exchanged(self):
        chance = random.Random(113)
        for _ in range(1500):
            text = word_text(random_word(chance, 3))
            at = chance.randrange(len(text) + 1)
            sign = chance.choice("NTFit()0123456789-:; \n~\x7f\xe9") if chance.randrange(2) else chance.choice(SIGNS)
            for near in (text[:at] + sign + text[at:], text[:at] + text[at + 1:], text[:at] + sign + text[at + 1:]):
                kind, told = naive_read(near)
                if kind == "bad":
                    self.assertEqual(place_of(near), told, near)
                else:
                    self.assertEqual(repr(read_word(near)), repr(told), near)

    def completes(self, text):
        """Whether some word's text goes on so: what is open is ended, in each way that there is."""
        middles = ["", ";", "0;", "1;", "N", ":", "0:"] + ["a" * many for many in range(1, 13)]
        count = re.search(r"t(\d+)\Z", text)
        middles += [":" + "a" * int(count.group(1))] if count else []
        return any(place_of(text + middle + ")" * close) is None for middle in middles for close in range(4))

    def test_the_place_is_that_of_the_longest_beginning(self):
        signs = "(Ni01-;t:)"
        begun = {"": True}
        for _ in range(3):
            for text in [text for text in begun if begun[text]]:
                for sign in signs:
                    if text + sign not in begun:
                        begun[text + sign] = self.completes(text + sign)
        for text in [text for text in begun if begun[text]]:
            for sign in signs:
                for more in ("", "N"):
                    if text + sign in begun and not begun[text + sign]:
                        self.assertEqual(place_of(text + sign + more), len(text), text + sign + more)
                    elif text + sign in begun and place_of(text + sign) is not None:
                        self.assertEqual(place_of(text + sign), len(text + sign))


class Checks(unittest.TestCase):
    def test_told_ones(self):
        self.assertEqual([check_of(""), check_of("ab"), check_of(" "), check_of("~")], ["00000", "47127", "00163", "00257"])

    def test_by_the_words(self):
        chance = random.Random(114)
        for _ in range(500):
            text = random_text(chance, 60)
            self.assertEqual(check_of(text), naive_check(text))
            self.assertRegex(check_of(text), r"\A[0-9]{5}\Z")
            self.assertEqual(sealed(text), str(len(text)) + ":" + text + naive_check(text))

    def test_sealed(self):
        self.assertEqual([sealed(""), sealed("ab"), sealed("x" * 10)[:3]], ["0:00000", "2:ab47127", "10:"])


class Records(unittest.TestCase):
    def test_one_behind_another(self):
        self.assertEqual(records([]), "")
        self.assertEqual(records(["ab", "", "ab"]), "2:ab471270:000002:ab47127")
        self.assertEqual(records(("ab",)), "2:ab47127")
        self.assertEqual(read_records("2:ab471270:000002:ab47127"), (("ab", "", "ab"), ""))
        self.assertEqual(read_records(""), ((), ""))

    def test_cut_at_each_place(self):
        texts = ["ab", "", "(i-7;t3:a b()N)", "0:00000", "9" * 11, " "]
        whole = records(texts)
        ends = [len(records(texts[:k])) for k in range(len(texts) + 1)]
        for keep in range(len(whole) + 1):
            many = max(k for k, end in enumerate(ends) if end <= keep)
            self.assertEqual(read_records(whole[:keep]), (tuple(texts[:many]), whole[ends[many]:keep]))

    def test_one_sign_exchanged(self):
        texts = ["ab", "(i-7;N)", "x"]
        whole = records(texts)
        ends = [len(records(texts[:k])) for k in range(4)]
        for at in range(len(whole)):
            k = max(k for k, end in enumerate(ends) if end <= at)
            for sign in SIGNS + "\n\x00\xe9\u0661":
                near = whole[:at] + sign + whole[at + 1:]
                self.assertEqual(read_records(near), naive_records(near))
                if sign != whole[at]:
                    self.assertEqual(read_records(near), (tuple(texts[:k]), near[ends[k]:]))

    def test_no_seals(self):
        for text in ("02:ab47127", "+2:ab47127", " 2:ab47127", "2 :ab47127", "2ab47127", ":ab47127", "ab47127", "2:ab47128", "2:ab4712", "1:ab47127",
                     "3:ab47127", "2:ac47127", "00:00000", "-0:00000", "\u0662:ab47127", "\xb2:ab47127", "2:ab4712\u0667", "2:ab4712\xb7", "2:", ":", "2",
                     "0", "x", "9" * 4000 + ":ab47127", "9" * 5000 + ":ab47127", "9" * 4000, "2:ab 47127", "2_:ab47127", "0x2:ab47127", "2:ab" + "\uff14" + "7127"):
            self.assertEqual(read_records(text), ((), text), text)
            self.assertEqual(read_records("0:00000" + text), (("",), text))

    def test_signs_beyond_those_of_texts(self):
        for sign in "\n\t\x00\x1f\x7f\x80\xe9\u0661\U0001f600":
            for inner in (sign, "ab" + sign, sign + "ab"):
                near = f"{len(inner)}:{inner}{naive_check(inner)}"
                self.assertEqual(read_records(near), ((), near))
                self.assertEqual(read_records("2:ab47127" + near), (("ab",), near))
            self.assertEqual(read_records("2:ab47127" + sign), (("ab",), sign))

    def test_by_chance(self):
        chance = random.Random(115)
        for _ in range(800):
            texts = [random_text(chance) for _ in range(chance.randrange(6))]
            whole = records(texts)
            self.assertEqual(read_records(whole), (tuple(texts), ""))
            rest = random_text(chance)
            self.assertEqual(read_records(whole + rest), naive_records(whole + rest))
            keep = chance.randint(0, len(whole))
            self.assertEqual(read_records(whole[:keep]), naive_records(whole[:keep]))


class Bounds(unittest.TestCase):
    """[8.7], and somewhat beyond."""

    def test_forty_within_one_another_and_two_thousand_parts(self):
        for word in (nested(40, 1), nested(400, ()), nested(3000, None), tuple(range(2000)), ((),) * 2000, tuple((k, "x") for k in range(700))):
            text = word_text(word)
            back = read_word(text)
            self.assertEqual(word_text(back), text)
        self.assertEqual(read_word(word_text(nested(40, 1))), nested(40, 1))

    def test_integers_of_four_thousand_digits(self):
        for digits in (1, 63, 64, 65, 127, 128, 129, 4000, 4299, 4301, 6000):
            for digit in ("1", "9"):
                for sign in ("", "-"):
                    text = "i" + sign + digit * digits + ";"
                    self.assertEqual(word_text(read_word(text)), text)
            noughts = "i1" + "0" * (digits - 1) + ";"
            self.assertEqual(word_text(read_word(noughts)), noughts)
            power = 1
            for _ in range(digits - 1):
                power *= 10
            self.assertEqual(word_text(power), noughts)
            self.assertEqual(read_word(noughts), power)
            self.assertEqual(word_text(1 - power), "i-" + "9" * (digits - 1) + ";" if digits > 1 else "i0;")
        self.assertEqual(place_of("i" + "7" * 4000), 4001)
        self.assertEqual(place_of("t" + "7" * 4000 + ":abc"), 4005)

    def test_texts_of_sixty_thousand_signs(self):
        text = (SIGNS * 700)[:60000]
        self.assertEqual(check_of(text), naive_check(text))
        self.assertEqual(read_records(sealed(text)), ((text,), ""))
        self.assertEqual(read_records(sealed(text)[:-1]), ((), sealed(text)[:-1]))
        self.assertEqual(read_word(word_text(text)), text)
        self.assertEqual(place_of("(" * 60000), 60000)
        self.assertEqual(place_of("(" * 400 + "N" + ")" * 401), 801)
        self.assertEqual(place_of("(" * 400 + "N" + ")" * 399), 800)
        self.assertEqual(place_of("t60000:" + "a" * 50000), 50007)

    def test_three_hundred_texts(self):
        texts = [str(k) * (k % 7) for k in range(300)]
        self.assertEqual(read_records(records(texts)), (tuple(texts), ""))
        many = "0:00000" * 8000
        self.assertEqual(read_records(many), (("",) * 8000, ""))


class Keeping(unittest.TestCase):
    def test_no_list_is_modified(self):
        texts = ["ab", "", "x"]
        records(texts)
        self.assertEqual(texts, ["ab", "", "x"])


if __name__ == "__main__":
    unittest.main()
