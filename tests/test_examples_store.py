"""The examples of the document's interface, of store, seals, disks and letters, with the answers that stand there."""

import unittest

from effectonce.disks import is_record, mended, torn, words_on, written
from effectonce.errors import BadDisk, BadText
from effectonce.letters import (fields_of, goes_to, is_answer, is_letter, judge_letter, letter_text, read_letter, unanswered)
from effectonce.seals import check_of, read_records, read_word, records, sealed, word_text
from effectonce.store import (attempt_in, bar_need, bars_grant, free_units, has_ended, new_store, outcome_in, results_in,
                              still_open, store_again, store_hears, ticked)


class StoreExample(unittest.TestCase):
    A = ("a", "all", (), ("value", 5), (("saw", 1),), 2, 2, 0, 0)
    B = ("b", "all", ("a",), ("plus", ("result", "a"), ("value", 1)), (("saw", 1),), 1, 1, 3, 0)
    C = ("c", "ended", ("a",), ("value", "x"), (), 1, 1, 0, 0)

    def test_the_way_of_a_store(self):
        store = new_store(((("saw", 1),), (self.A, self.B, self.C)))
        self.assertEqual(
            [bars_grant(store, "a"), bars_grant(store, "b"), bars_grant(store, "c"), bars_grant(store, "z"), free_units(store), still_open(store)],
            [None, ('early', 3), ('need', 'a'), ('job',), (('saw', 1),), ('a', 'b', 'c')])
        store, answers = store_hears(store, ("take", 1))
        self.assertEqual(
            [answers, store_hears(store, ("take", 0))[1], store["moment"], store_hears(store, ("take", 1))[0] == store],
            [(('taken', 1),), (('no', 1, ('take', 0)),), 1, True])
        store, answers = store_hears(store, ("grant", 1, "a", 4, 0))
        self.assertEqual(
            [answers, store["holds"], free_units(store), bars_grant(store, "a")],
            [(('granted', 1, 'a', 4, 0, 1, ()),), {'a': (4, 0, 1, 2, 0)}, (('saw', 0),), ('held',)])
        self.assertEqual(
            [store_hears(store, ("grant", 1, "a", 4, 1))[1], store_hears(store, ("end", 1, "a", 4, 1, ("failed",)))[1]],
            [(('no', 1, ('grant', 1, 'a', 4, 1)),), (('refused', 1, 'a', 4),)])
        store, answers = store_hears(store, ("end", 0, "a", 4, 1, ("failed",)))
        self.assertEqual(
            [answers, store["ends"], attempt_in(store, "a"), has_ended(store, "a"), store_hears(store, ("free", 1, "a", 4))[1]],
            [(('ended', 0, 'a', 4),), {'a': (('failed', 4, 2, 0, 3, None),)}, 2, False, (('freed', 1, 'a', 4),)])
        store = store_hears(ticked(ticked(ticked(store))), ("grant", 1, "a", 5, 2))[0]
        store = store_hears(store, ("end", 2, "a", 5, 2, ("failed",)))[0]
        self.assertEqual(
            [outcome_in(store, "a"), bar_need(store, "b"), bar_need(store, "c"), results_in(store, "c"), bars_grant(store, "c"), bars_grant(store, "b")],
            [('failed', 2), 'a', None, (('a', None),), None, ('need', 'a')])
        store, answers = store_hears(store, ("bar", 1, "b", "a"))
        self.assertEqual(
            [answers, outcome_in(store, "b"), still_open(store), store_hears(store, ("ask", 1))[1]],
            [(('barred', 1, 'b'),), ('barred', 'a'), ('c',), (('told', 1, 6, 3, 5, (), (('a', (('failed', 4, 2, 0, 3, None), ('failed', 5, 4, 3, 5, None))),), (('b', 'a'),)),)])

    def test_again(self):
        kept = [(0, ("take", 1)), ("tick",), (1, ("grant", 1, "c", 1, 0))]
        self.assertEqual(store_again(((), (self.C[:2] + ((),) + self.C[3:],)), kept)["holds"], {'c': (1, 0, 1, 2, 1)})


class SealsExample(unittest.TestCase):
    def test_words_and_seals(self):
        self.assertEqual(
            [word_text((0 - 7, "a b", (), None)), read_word("(i-7;t3:a b()N)"), check_of("ab"), sealed("ab"), sealed("")],
            ['(i-7;t3:a b()N)', (-7, 'a b', (), None), '47127', '2:ab47127', '0:00000'])
        self.assertEqual(
            [records(["ab", ""]), read_records("2:ab471270:00000"), read_records("2:ab471270:000"), read_records("2:ac47127")],
            ['2:ab471270:00000', (('ab', ''), ''), (('ab',), '0:000'), ((), '2:ac47127')])
        with self.assertRaises(BadText) as caught:
            read_word("(i07;)")
        self.assertEqual(caught.exception.place, 3)


class DisksExample(unittest.TestCase):
    def test_disks(self):
        disk = written("", [("epoch", 5)])
        self.assertEqual(
            [disk[:16], words_on(disk), words_on(torn("", [("epoch", 5)], 20)), mended(torn(disk, [("epoch", 6)], 3)) == disk,
             words_on(written(torn("", [("epoch", 5)], 20), [("epoch", 6)]))],
            ['13:(t5:epochi5;)', (('epoch', 5),), (), True, (('epoch', 6),)])
        self.assertEqual(
            [is_record("keeper", ("epoch", 1)), is_record("keeper", ("epoch", 0)), is_record("store", ("tick",)), is_record("store", (3, ("take", 1))),
             is_record("store", (3, ("taken", 1))), is_record("machine", ("step", 4, 1))],
            [True, False, True, True, False, True])
        with self.assertRaises(BadDisk) as caught:
            words_on("1:x00251")
        self.assertEqual(caught.exception.place, 0)


class LettersExample(unittest.TestCase):
    GRANT = ("grant", 1, "a", 3, 0)
    GRANTED = ("granted", 1, "a", 3, 0, 1, (("b", None),))

    def test_letters(self):
        grant, granted = self.GRANT, self.GRANTED
        self.assertEqual(
            [judge_letter(grant), judge_letter(("grant", 1, "a", 3)), judge_letter(("grant", 0, "a", 0, 0)), judge_letter(("grant", 1, "a", 0, 9)), judge_letter(None)],
            [None, ('form',), ('part', 1), ('part', 3), ('form',)])
        self.assertEqual(
            [goes_to(grant), goes_to(granted), goes_to(("ended", 5, "a", 3)), read_letter(letter_text(grant)) == grant, read_letter(letter_text(grant)[:-1])],
            [('store',), ('keeper',), ('machine', 5), True, None])
        self.assertEqual(
            [is_letter(("told", 1, 4, 2, 3, (("a", (3, 0, 1, 4, 2)),), (("b", (("done", 1, 1, 0, 3, 7),)),), ())),
             is_letter(("end", 0, "a", 3, 1, ("failed",))), is_letter(("no", 0, grant)), is_letter(("no", 0, granted))],
            [True, True, True, False])

    def test_answers(self):
        grant, granted = self.GRANT, self.GRANTED
        self.assertEqual(
            [is_answer(grant, granted), is_answer(grant, ("no", 2, grant)), is_answer(grant, ("taken", 1)), is_answer(("ask", 1), ("told", 1, 0, 0, 0, (), (), ()))],
            [True, True, False, True])
        self.assertEqual(
            [unanswered([grant, ("take", 1), grant], [("taken", 1)]), fields_of(grant), fields_of(granted)],
            [(('grant', 1, 'a', 3, 0),), ('fence', 'holds', 'moment'), ()])


if __name__ == "__main__":
    unittest.main()
