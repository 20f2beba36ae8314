"""The examples of the document's interface, with the answers that stand there."""

import unittest

from effectonce.books import (book_text, command_text, is_book, is_job, job_of, job_text, names_of_jobs, read_book,
                              read_command, read_job, units_of)
from effectonce.commands import attempt_worth, folded, is_command, names_in, outcome_of, size_of
from effectonce.errors import BadBook, BadText
from effectonce.meaning import (blamed, judge_outcomes, judge_why, outcome_due, outcomes, results_due, tries_of, why)
from effectonce.orders import (closed, in_order, judge_chains, judge_order, lots, narrowest, only, ranks, renamed,
                               widest, with_job, without)
from effectonce.swaying import changed, looked_at, rounds_of, sure, swayed, truly_hangs, with_command
from effectonce.values import is_name, is_true, is_value, kept_text, rank
from effectonce.webs import (hangs_on, hung_on, judge_book, judge_ring, judge_way, need_book, needed_by, needs_of,
                             ring_of, way)
from tests.samples import WEB


class ValuesExample(unittest.TestCase):
    def test_values_and_names(self):
        self.assertEqual(
            [is_value(10 ** 20), is_value("a_B-1 "), is_value("a.b"), is_value("a" * 25), is_value(None),
             is_value(True), is_name("abcdefgh"), is_name("aB")],
            [True, True, False, False, True, False, True, False])

    def test_order_and_kept_text(self):
        self.assertEqual(
            [sorted(["b", 3, None, -4, ""], key=rank), kept_text("abcdefghijklmnopqrstuvwxyz"), is_true(-2),
             is_true(0), is_true("a"), is_true(None)],
            [[None, -4, 3, '', 'b'], 'abcdefghijklmnopqrstuvwx', True, False, False, False])


class CommandsExample(unittest.TestCase):
    LATER = ("demand", ("below", ("value", 1), ("attempt",)),
             ("plus", ("result", "b"), ("times", ("attempt",), ("value", 10))))

    def test_later(self):
        later = self.LATER
        self.assertEqual(
            [is_command(later), size_of(later), names_in(later), attempt_worth(later, (("b", 7),), 1),
             attempt_worth(later, (("b", 7),), 2), attempt_worth(later, (), 2)],
            [True, 9, ('b',), ('failed',), ('done', 27), ('done', None)])

    def test_outcomes_and_joined(self):
        self.assertEqual(
            [outcome_of(self.LATER, (("b", 7),), 3), outcome_of(self.LATER, (("b", 7),), 1),
             attempt_worth(("joined", ("value", "ab"), ("value", "c-")), (), 1),
             attempt_worth(("plus", ("value", "a"), ("value", 1)), (), 1)],
            [('done', 2, 27), ('failed', 1), ('done', 'abc-'), ('done', None)])

    def test_if_and_demand(self):
        self.assertEqual(
            [attempt_worth(("if", ("value", 0), ("demand", ("value", 0), ("value", 1)), ("value", 5)), (), 1),
             attempt_worth(("and", ("value", 0), ("demand", ("value", None), ("value", 1))), (), 1),
             is_command(("result", "B"))],
            [('done', 5), ('failed',), False])

    def test_folded(self):
        self.assertEqual(
            [folded(("plus", ("attempt",), ("less", ("value", 5), ("value", 3)))),
             folded(("demand", ("value", 1), ("result", "b"))), folded(("demand", ("value", 0), ("result", "b")))],
            [('plus', ('attempt',), ('value', 2)), ('result', 'b'), ('demand', ('value', 0), ('result', 'b'))])


class BooksExample(unittest.TestCase):
    FIRST = ("a", "all", (), ("value", 7), (("cpu", 1),), 2, 1, 0, 0)
    LAST = ("b", "ended", ("a",),
            ("demand", ("below", ("value", 1), ("attempt",)), ("plus", ("result", "a"), ("value", -3))), (),
            1, 3, 5, -2)
    BOOK = ((("cpu", 2),), (FIRST, LAST))

    def test_text(self):
        self.assertEqual(
            book_text(self.BOOK).split("\n"),
            ['things cpu 2', 'job a all needs - uses cpu 1 length 2 tries 1 start 0 urgency 0 does 7',
             'job b ended needs a uses - length 1 tries 3 start 5 urgency -2 does ((1 < #) ; (@a + -3))'])
        self.assertEqual(command_text(self.LAST[3]), '((1 < #) ; (@a + -3))')

    def test_reading(self):
        self.assertEqual(
            [read_book(book_text(self.BOOK)) == self.BOOK, read_job(job_text(self.LAST)) == self.LAST,
             read_book("things -"), read_command('(@a ? !"x y" : ())')],
            [True, True, ((), ()), ('if', ('result', 'a'), ('not', ('value', 'x y')), ('value', None))])

    def test_form(self):
        book, first = self.BOOK, self.FIRST
        self.assertEqual(
            [is_job(first), is_job(first[:8]), is_book(book), is_book(((("cpu", 2),), [first])),
             names_of_jobs(book), job_of(book, "b") == self.LAST, job_of(book, "c"), units_of(book, "cpu"),
             units_of(book, "disk")],
            [True, False, True, False, ('a', 'b'), True, None, 2, None])

    def test_bad_texts(self):
        with self.assertRaises(BadText) as caught:
            read_command("(#+ 1)")
        self.assertEqual(caught.exception.place, 2)
        with self.assertRaises(BadText) as caught:
            read_book("things cpu 2\njob a any")
        self.assertEqual(caught.exception.place, 20)


A, B, C, D, E, F = WEB[1]
X, Y = ("x", "all", ("y",)) + E[3:], ("y", "ended", ("x",)) + E[3:]


class WebsExample(unittest.TestCase):
    def test_judge_book(self):
        self.assertEqual(
            [judge_book(WEB), judge_book((WEB[0], (A, C, B))), judge_book(((), (A,))), judge_book((WEB[0], (B,))),
             judge_book(None)],
            [None, (2, 'name'), (0, 'units'), (0, 'needs'), (0, 'form')])

    def test_rings(self):
        self.assertEqual(
            [judge_book(((), (X, Y))), ring_of(WEB[1]), judge_ring((X, Y), ring_of((X, Y))),
             judge_ring((X, Y), ("x",)), judge_ring((X, Y), ())],
            [(0, 'ring'), None, None, ('need', 0), ('form',)])
        with self.assertRaises(BadBook) as caught:
            need_book(((), (X, Y)))
        self.assertEqual((caught.exception.number, caught.exception.word), (0, 'ring'))

    def test_needs(self):
        self.assertEqual(
            [names_of_jobs(WEB), needs_of(WEB, "e"), needed_by(WEB, "d"), hangs_on(WEB, "e"), hung_on(WEB, "b")],
            [('a', 'b', 'c', 'd', 'e', 'f'), ('c', 'd'), ('e', 'f'), ('a', 'b', 'c', 'd'), ('d', 'e', 'f')])

    def test_ways(self):
        self.assertEqual(
            [way(WEB, "f", "a"), way(WEB, "c", "b"), way(WEB, "a", "a"), judge_way(WEB, "f", "a", ("f", "e", "c", "a"))],
            [('f', 'd', 'b', 'a'), None, ('a',), None])
        self.assertEqual(
            [judge_way(WEB, "f", "a", ("f", "e", "d", "b", "a")), judge_way(WEB, "f", "a", ("f", "a")),
             judge_way(WEB, "f", "a", ("f",))],
            [('long', 4), ('need', 0), ('ends',)])


class OrdersExample(unittest.TestCase):
    def test_ranks(self):
        self.assertEqual(
            [ranks(WEB), in_order(WEB)],
            [(('a', 0), ('b', 1), ('c', 1), ('d', 2), ('e', 3), ('f', 4)), ('a', 'b', 'c', 'd', 'e', 'f')])

    def test_judge_order(self):
        self.assertEqual(
            [judge_order(WEB, ("a", "b", "d", "c", "e", "f")), judge_order(WEB, ("a", "b", "d", "e", "c", "f")),
             judge_order(WEB, ("a",))],
            [None, ('early', 'e'), ('form',)])

    def test_chains(self):
        self.assertEqual(
            [widest(WEB)[0], len(narrowest(WEB)), judge_chains(WEB, narrowest(WEB)),
             judge_chains(WEB, [("f", "e", "c"), ("d", "b", "a")])],
            [2, 2, None, None])
        self.assertEqual(
            [judge_chains(WEB, [("f", "e", "c"), ("d", "b"), ("a",)]),
             judge_chains(WEB, [("c", "b"), ("f", "e", "d", "a")]), judge_chains(WEB, [("a",)])],
            [('many', 2), ('chain', 0), ('lacks', 'b')])

    def test_parts_of_books(self):
        self.assertEqual(
            [closed(WEB, ["d"]), names_of_jobs(only(WEB, ["c"])), names_of_jobs(without(WEB, "b")), lots(WEB),
             lots((WEB[0], (A, E[:2] + ((),) + E[3:])))],
            [('a', 'b', 'd'), ('a', 'c'), ('a', 'c'), (('a', 'b', 'c', 'd', 'e', 'f'),), (('a',), ('e',))])
        self.assertEqual(
            [names_of_jobs(with_job(WEB, ("g", "all", ("f",)) + E[3:])),
             renamed(only(WEB, ["b"]), {"a": "z", "b": "y"})[1][0]],
            [('a', 'b', 'c', 'd', 'e', 'f', 'g'),
             ('y', 'all', ('z',), ('plus', ('result', 'z'), ('value', 4)), (), 1, 1, 0, 5)])


class MeaningExample(unittest.TestCase):
    def test_outcomes(self):
        self.assertEqual(
            outcomes(WEB),
            (('a', ('done', 1, 3)), ('b', ('done', 1, 7)), ('c', ('done', 2, 'ok')), ('d', ('failed', 2)),
             ('e', ('barred', 'd')), ('f', ('done', 1, 7))))

    def test_one_job(self):
        self.assertEqual(
            [outcome_due(WEB, "c"), results_due(WEB, "f"), tries_of(WEB, "c"), tries_of(WEB, "d"), tries_of(WEB, "e")],
            [('done', 2, 'ok'), (('d', None), ('e', None)), (('failed',), ('done', 'ok')),
             (('failed',), ('failed',)), ()])

    def test_judge_outcomes(self):
        due = outcomes(WEB)
        self.assertEqual(
            [judge_outcomes(WEB, due), judge_outcomes(WEB, due[:3] + (("d", ("done", 1, 1)),) + due[4:]),
             judge_outcomes(WEB, due[1:])],
            [None, ('job', 'd', ('failed', 2)), ('form',)])

    def test_why(self):
        self.assertEqual(
            [why(WEB, "e"), why(WEB, "f"), blamed(WEB, "d"), blamed(WEB, "a")],
            [('e', 'd'), ('f',), ('e',), ()])
        self.assertEqual(
            [judge_why(WEB, ("e", "d")), judge_why(WEB, ("e", "c")), judge_why(WEB, ("e",)), judge_why(WEB, ())],
            [None, ('barred', 0), ('end',), ('form',)])


class SwayingExample(unittest.TestCase):
    def test_hanging(self):
        self.assertEqual(
            [looked_at(WEB, "f"), looked_at(WEB, "b"), looked_at(WEB, "e"), truly_hangs(WEB, "f"),
             truly_hangs(WEB, "e")],
            [('d',), ('a',), (), ('a', 'b', 'd'), ('a', 'b', 'c', 'd')])

    def test_swayed(self):
        self.assertEqual(
            [swayed(WEB, "b", ("value", 0)), changed(WEB, WEB), with_command(WEB, "a", ("value", 5))[1][0][3]],
            [(('b', ('done', 1, 7), ('done', 1, 0)),), (), ('value', 5)])
        self.assertEqual(
            swayed(WEB, "d", ("result", "b")),
            (('d', ('failed', 2), ('done', 1, 7)), ('e', ('barred', 'd'), ('done', 1, 1)),
             ('f', ('done', 1, 7), ('done', 1, 1))))

    def test_rounds(self):
        self.assertEqual(
            [sure(WEB, {}), sure(WEB, {"c": ("done", 2, "ok"), "d": ("failed", 2)})],
            [(('a', ('done', 1, 3)),), (('a', ('done', 1, 3)), ('e', ('barred', 'd')))])
        self.assertEqual(rounds_of(WEB), (('a',), ('b', 'c'), ('d',), ('e',), ('f',)))


if __name__ == "__main__":
    unittest.main()
