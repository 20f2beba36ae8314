"""Part 11, letters: which are right, where they go, their texts, what answers them, what they change."""

import random
import unittest

from effectonce.letters import (fields_of, goes_to, is_answer, is_letter, judge_letter, letter_text, read_letter, unanswered)
from effectonce.seals import records, sealed, word_text
from effectonce.store import new_store, store_hears, ticked
from tests.letter_samples import (DONE, END, EXAMPLE, FAILED, HOLD, LETTERS, PARTS, SORTS, TO_KEEPER, TO_MACHINES, TO_STORE,
                                  exchanged, near_letters)
from tests.samples import ODD_VALUES
from tests.store_oracles import Rows, random_letter, store_book
from tests.word_oracles import SIGNS, naive_check


class Judging(unittest.TestCase):
    def assert_letter(self, value, due=None):
        self.assertEqual(judge_letter(value), due, value)
        self.assertIs(is_letter(value), due is None, value)

    def test_the_fifteen(self):
        self.assertEqual(sorted(EXAMPLE), sorted(PARTS))
        self.assertEqual(len(EXAMPLE), 15)
        for letter in LETTERS:
            self.assert_letter(letter)

    def test_each_part_at_its_bounds_and_just_beyond(self):
        for word in PARTS:
            for value, k, right in near_letters(word):
                self.assert_letter(value, None if right else ("part", k))

    def test_the_least_part(self):
        for word, told in PARTS.items():
            sorts = told.split()
            letter = EXAMPLE[word]
            for k in range(len(sorts), 0, -1):
                letter = exchanged(letter, k, SORTS[sorts[k - 1]][1][0])
                self.assert_letter(letter, ("part", k))

    def test_form(self):
        for letter in LETTERS:
            for value in (letter[:-1], letter + (1,), letter + ((),), letter[1:], list(letter), (letter,), letter[0], letter[:1],
                          (letter[0].upper(),) + letter[1:], (letter[0] + "s",) + letter[1:], (None,) + letter[1:], ([],) + letter[1:],
                          ((letter[0],),) + letter[1:], (True,) + letter[1:], {letter[0]: letter[1]}):
                self.assert_letter(value, ("form",))
        for value in ODD_VALUES + (("no",), ("take", 1, 2), ("ask",), ("done", 1), ("epoch", 1), ("tick",)):
            self.assert_letter(value, ("form",))

    def test_any_value_in_each_part(self):
        for word, told in PARTS.items():
            for k, sort in enumerate(told.split()):
                for value in ODD_VALUES:
                    letter = exchanged(EXAMPLE[word], k + 1, value)
                    if sort in ("epoch", "fence", "attempt", "moment", "time", "machine", "last"):
                        least, most = {"machine": (0, 7), "moment": (0, None), "time": (0, None), "last": (0, None)}.get(sort, (1, None))
                        right = isinstance(value, int) and not isinstance(value, bool) and value >= least and (most is None or value <= most)
                    elif sort in ("job", "need"):
                        right = value in ("a", "abc", "job")
                    elif sort in ("results", "barred"):
                        right = value == () or sort == "results" and value == (("a", 1),)
                    else:
                        right = value == () and sort in ("holds", "ends")
                    self.assert_letter(letter, None if right else ("part", k + 1))

    def test_what_stands_in_one_part_is_not_held_against_another(self):
        self.assert_letter(("told", 1, 0, 0, 0, (("a", HOLD),), (("a", (DONE, DONE, FAILED)),), (("a", "a"),)))
        self.assert_letter(("bar", 1, "a", "a"))
        self.assert_letter(("no", 1, ("take", 9)))
        self.assert_letter(("granted", 1, "a", 3, 0, 1, (("a", 1),)))

    def test_a_no_within_a_no(self):
        self.assert_letter(("no", 0, ("ask", 1)))
        self.assert_letter(("no", -1, ("ask", 1)), ("part", 1))
        self.assert_letter(("no", 0, ("no", 0, ("ask", 1))), ("part", 2))
        self.assert_letter(("no", True, ("ask", 0)), ("part", 1))

    def test_integers_of_sixty_digits(self):
        big = 10 ** 59 + 7
        for letter in (("take", big), ("grant", big, "a", big, 7), ("end", 7, "a", big, big, ("done", -big)),
                       ("told", big, big, big, big, (("a", (big, 7, big, big, big)),), (("b", (("done", big, big, big, big + 1, big),)),), ())):
            self.assert_letter(letter)
            self.assertEqual(read_letter(letter_text(letter)), letter)

    def test_sixteen_jobs_and_values_of_four_thousand_digits(self):
        names = "abcdefghijklmnop"
        letter = ("told", 1, 0, 0, 0, tuple((name, HOLD) for name in names), tuple((name, (FAILED,) * 5) for name in names),
                  tuple((name, "a") for name in names))
        self.assert_letter(letter)
        self.assertEqual(read_letter(letter_text(letter)), letter)
        letter = ("end", 0, "a", 1, 1, ("done", 10 ** 3999))
        self.assert_letter(letter)
        self.assertEqual(read_letter(letter_text(letter)), letter)
        letter = ("work", 1, 0, "a", 1, 1, tuple((name, -10 ** 3999) for name in names[:12]))
        self.assertEqual(read_letter(letter_text(letter)), letter)


class Going(unittest.TestCase):
    def test_for_whom(self):
        for letter in TO_STORE + (END,):
            self.assertEqual(goes_to(letter), ("store",))
        for letter in TO_KEEPER:
            self.assertEqual(goes_to(letter), ("keeper",))
        for m in range(8):
            self.assertEqual([goes_to(letter) for letter in (("work", 3, m, "a", 2, 1, ()), ("ended", m, "a", 3), ("refused", m, "a", 3))],
                             [("machine", m)] * 3)
        self.assertEqual([goes_to(letter) for letter in TO_MACHINES], [("machine", 5)] * 3)


class Texts(unittest.TestCase):
    def test_there_and_back(self):
        for letter in LETTERS:
            self.assertEqual(letter_text(letter), sealed(word_text(letter)))
            self.assertEqual(repr(read_letter(letter_text(letter))), repr(letter))
        self.assertEqual(letter_text(("ask", 1)), "11:(t3:aski1;)" + naive_check("(t3:aski1;)"))

    def test_cut(self):
        for letter in LETTERS:
            text = letter_text(letter)
            for keep in range(len(text)):
                self.assertIsNone(read_letter(text[:keep]))
                self.assertIsNone(read_letter(text[keep + 1:]))

    def test_one_sign_exchanged(self):
        chance = random.Random(121)
        for letter in LETTERS:
            text = letter_text(letter)
            for at in range(len(text)):
                for sign in chance.sample(SIGNS, 12) + ["0", "1", "\n", "\xe9"]:
                    near = text[:at] + sign + text[at + 1:]
                    self.assertEqual(read_letter(near), letter if near == text else None)

    def test_more_or_less_than_one_seal(self):
        one = letter_text(("ask", 1))
        for text in ("", one + one, one + " ", " " + one, one + "0:00000", "0:00000" + one, "0:00000", one[:-1] + "\n", one + "\n"):
            self.assertIsNone(read_letter(text))

    def test_a_word_that_is_no_letter(self):
        for word in (None, True, (), "take", ("take", 0), ("take", True), ("epoch", 1), ("tick",), (3, ("take", 1)), ("take", 1, 1)):
            self.assertIsNone(read_letter(sealed(word_text(word))))
        for text in ("", "(", "x", "(t4:takei1;", "(t4:takei1;))", "(t4:takei01;)", "[]"):
            self.assertIsNone(read_letter(sealed(text)))
        self.assertEqual(read_letter(sealed("(t4:takei1;)")), ("take", 1))
        self.assertIsNone(read_letter("(t4:takei1;)"))

    def test_odd_values(self):
        for value in ODD_VALUES + LETTERS + ([letter_text(("ask", 1))], (letter_text(("ask", 1)),), {letter_text(("ask", 1)): 1}):
            self.assertIsNone(read_letter(value))

    def test_long_texts(self):
        for text in ("x" * 4000, "(" * 4000, "9" * 4000, "9" * 3999 + ":", sealed("(" * 390), sealed("(" * 390 + ")" * 390),
                     records(["(t3:aski1;)"] * 200)):
            self.assertIsNone(read_letter(text))


def answers_to(letter):
    """All letters that answer it, of those that can be made of the samples' parts."""
    word = letter[0]
    if word == "end":
        return [(each,) + letter[1:4] for each in ("ended", "refused")]
    found = {"take": [("taken",) + letter[1:2]], "free": [("freed",) + letter[1:]], "bar": [("barred",) + letter[1:3]],
             "grant": [("granted",) + letter[1:] + (attempt, results) for attempt in (1, 9) for results in ((), (("b", None),))],
             "ask": [("told", letter[1]) + rest for rest in (TO_KEEPER[5][2:], (0, 0, 0, (), (), ()))]}.get(word, [])
    return found + [("no", epoch, letter) for epoch in (0, 1, 5)] if found else []


class Answers(unittest.TestCase):
    def test_right_ones(self):
        for letter in TO_STORE + (END,):
            for answer in answers_to(letter):
                self.assertTrue(is_letter(answer))
                self.assertIs(is_answer(letter, answer), True, (letter, answer))

    def test_each_pair(self):
        for letter in LETTERS:
            for other in LETTERS:
                for answer in answers_to(other) + list(LETTERS):
                    self.assertIs(is_answer(letter, answer), answer in answers_to(letter), (letter, answer))

    def test_each_part_exchanged(self):
        others = {"epoch": 2, "last": 2, "job": "q", "need": "q", "fence": 4, "machine": 6, "attempt": 8, "results": (), "moment": 9, "time": 9}
        matters = {"take": 1, "grant": 4, "free": 3, "bar": 2, "ask": 1, "end": 3}
        for letter in TO_STORE + (END,):
            for answer in answers_to(letter):
                if answer[0] == "no":
                    continue
                for k, sort in enumerate(PARTS[answer[0]].split()):
                    if sort in others:
                        near = exchanged(answer, k + 1, others[sort])
                        self.assertTrue(is_letter(near))
                        self.assertIs(is_answer(letter, near), k >= matters[letter[0]] or near == answer, (letter, near))

    def test_parts_of_the_letter_that_do_not_matter(self):
        for attempt, outcome in ((1, ("failed",)), (9, ("done", 3))):
            self.assertIs(is_answer(("end", 0, "a", 3, attempt, outcome), ("ended", 0, "a", 3)), True)
        self.assertIs(is_answer(("bar", 1, "b", "z"), ("barred", 1, "b")), True)

    def test_no(self):
        for letter in TO_STORE:
            for other in TO_STORE + (("take", 2), ("grant", 1, "a", 3, 1), ("bar", 1, "b", "c")):
                self.assertIs(is_answer(letter, ("no", 7, other)), letter == other)
        for letter in (END,) + TO_KEEPER + TO_MACHINES:
            for other in TO_STORE:
                self.assertIs(is_answer(letter, ("no", 1, other)), False)

    def test_unanswered(self):
        take, grant, free, bar, ask = TO_STORE
        for sent, heard, due in (
                ([], [], ()), ([take], [], (take,)), ([take, take, ask, take], [], (take, ask)), ([take, ask, END], [("taken", 1)], (ask, END)),
                ([ask, grant, take, grant, ask], [("taken", 1)], (ask, grant)), ([grant, take], [("no", 3, grant)], (take,)),
                ([take, ask], [("taken", 2), ("told", 2, 0, 0, 0, (), (), ())], (take, ask)), ([END, free, bar], [("refused", 0, "a", 3)], (free, bar)),
                ([END, free, bar], [("ended", 0, "a", 3), ("barred", 1, "b"), ("freed", 1, "a", 3)], ()),
                ([("end", 0, "a", 3, 1, ("failed",)), END, ("end", 1, "a", 3, 1, ("failed",))], [("ended", 0, "a", 3)], (("end", 1, "a", 3, 1, ("failed",)),)),
                (list(TO_KEEPER) + [ask] + list(TO_MACHINES), [], (ask,)), (list(TO_KEEPER), list(TO_KEEPER), ()), ([ask], [ask], (ask,))):
            self.assertEqual(unanswered(sent, heard), due)
            self.assertEqual(unanswered(tuple(sent), tuple(heard)), due)
            self.assertEqual(unanswered(sent * 3, heard * 2), due)

    def test_unanswered_by_chance(self):
        chance = random.Random(122)
        for _ in range(300):
            sent = [chance.choice(LETTERS + (("take", 2), ("ask", 2), ("free", 1, "b", 3))) for _ in range(chance.randrange(12))]
            heard = [chance.choice(answers_to(letter) or [letter]) for letter in sent if chance.randrange(2)]
            due = []
            for letter in sent:
                if answers_to(letter) and letter not in due and not any(answer in heard for answer in answers_to(letter)):
                    due.append(letter)
            self.assertEqual(unanswered(sent, heard), tuple(due))

    def test_three_hundred_letters(self):
        sent = [("free", 1, "a", k + 1) for k in range(300)]
        heard = [("freed", 1, "a", k + 1) for k in range(0, 300, 2)] * 2
        self.assertEqual(unanswered(sent, heard[:300]), tuple(sent[1::2]))


class Fields(unittest.TestCase):
    DUE = {"take": ("epoch", "moment"), "grant": ("fence", "holds", "moment"), "free": ("freed", "holds", "moment"),
           "bar": ("barred", "moment"), "end": ("ends", "holds", "moment")}

    def test_all_fifteen(self):
        for letter in LETTERS:
            self.assertEqual(fields_of(letter), self.DUE.get(letter[0], ()))

    def test_hearing_changes_no_other_fields(self):
        chance = random.Random(123)
        changed = {}
        for _ in range(40):
            told = store_book(chance, chance.randint(1, 6))
            rows, store = Rows(told), new_store(told)
            for _ in range(70):
                if chance.randrange(8) == 0:
                    rows.time += 1
                    store = ticked(store)
                letter = random_letter(chance, rows)
                rows.hear(letter)
                now, answers = store_hears(store, letter)
                unlike = [field for field in store if store[field] != now[field]]
                if now["moment"] == store["moment"]:
                    self.assertEqual(unlike, [])
                self.assertLessEqual(set(unlike), set(fields_of(letter)))
                changed.setdefault(letter[0], set()).update(unlike)
                self.assertEqual(store_hears(now, letter), (now, answers))
                store = now
        self.assertEqual(changed, {word: set(self.DUE.get(word, ())) for word in ("take", "grant", "free", "bar", "end", "ask")})


if __name__ == "__main__":
    unittest.main()
