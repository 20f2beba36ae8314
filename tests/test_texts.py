"""[2.2] to [2.5]: commands, jobs and books as texts, written and read."""

import random
import unittest

from effectonce.books import book_text, command_text, is_book, job_text, read_book, read_command, read_job
from effectonce.errors import BadText
from tests.oracles import told_by_grammar
from tests.samples import NAMES, ODD_VALUES, VALUES, WEB, job, random_book, random_command

READERS = (("command", read_command, command_text), ("job", read_job, job_text), ("book", read_book, book_text))
PRINTED = "".join(chr(k) for k in range(32, 127)) + "\t\n"
LINE = "job ab all needs b, c uses cpu 1, pen 2 length 3 tries 2 start 0 urgency -5 does (@b + 12)"
BOOK = "things cpu 2, pen 0\njob a all needs - uses - length 1 tries 1 start 0 urgency 0 does ()\n" + LINE


def place_of(read, text):
    """The place that reading tells, None if the text can be read."""
    try:
        read(text)
    except BadText as error:
        return error.place
    return None


class CommandTexts(unittest.TestCase):
    ROWS = (
        (("value", 0), "0"), (("value", 17), "17"), (("value", -3), "-3"), (("value", 999999999), "999999999"),
        (("value", -999999999), "-999999999"), (("value", None), "()"), (("value", ""), '""'),
        (("value", "A b-_9"), '"A b-_9"'), (("value", "x" * 24), '"' + "x" * 24 + '"'), (("value", " "), '" "'),
        (("result", "a"), "@a"), (("result", "abcdefgh"), "@abcdefgh"), (("attempt",), "#"),
        (("plus", ("value", 1), ("value", 2)), "(1 + 2)"), (("less", ("value", 1), ("value", -2)), "(1 - -2)"),
        (("times", ("value", 1), ("value", 2)), "(1 * 2)"), (("is", ("value", 1), ("value", 2)), "(1 = 2)"),
        (("below", ("value", 1), ("value", 2)), "(1 < 2)"), (("and", ("value", 1), ("value", 2)), "(1 & 2)"),
        (("or", ("value", 1), ("value", 2)), "(1 | 2)"), (("not", ("value", 1)), "!1"),
        (("joined", ("value", "a"), ("value", "b")), '("a" ~ "b")'), (("demand", ("attempt",), ("value", 2)), "(# ; 2)"),
        (("if", ("value", 1), ("value", 2), ("value", 3)), "(1 ? 2 : 3)"), (("not", ("not", ("attempt",))), "!!#"),
        (("not", ("plus", ("value", None), ("not", ("value", "")))), '!(() + !"")'),
        (("if", ("if", ("value", 1), ("value", 2), ("value", 3)), ("result", "b"), ("not", ("value", -1))),
         "((1 ? 2 : 3) ? @b : !-1)"),
    )

    def test_each_form(self):
        for command, text in self.ROWS:
            self.assertEqual(command_text(command), text)
            self.assertEqual(read_command(text), command)

    def test_no_text(self):
        for read in (read_command, read_job, read_book):
            for value in ODD_VALUES + (("(1 + 2)",), ["#"]):
                if not isinstance(value, str):
                    self.assertEqual(place_of(read, value), 0, value)
            self.assertEqual(place_of(read, ""), 0)

    def test_places(self):
        for text, place in (
                (" ", 0), ("x", 0), (")", 0), ("+1", 0), ("-", 1), ("-0", 1), ("--1", 1), ("- 1", 1), ("00", 1),
                ("01", 1), ("0 ", 1), ("-1-", 2), ("1234567890", 9), ("-1234567890", 10), ("1 + 2", 1), ("12a", 2),
                ("@", 1), ("@A", 1), ("@a1", 2), ("@abcdefghi", 9), ("@a ", 2), ("##", 1), ('"', 1), ('"a', 2),
                ('"a.', 2), ('"' + "a" * 25, 25), ('"' + "a" * 24, 25), ('""a', 2), ('"a\nb"', 2), ("(", 1), ("( ", 1),
                ("()1", 2), ("(())", 3), ("(1", 2), ("(1)", 2), ("(1+", 2), ("(1 ", 3), ("(1  + 2)", 3), ("(1 +2", 4),
                ("(1 + ", 5), ("(1 + 2", 6), ("(1 + 2 ", 6), ("(1 + 2))", 7), ("(1 / 2)", 3), ("(1 ! 2)", 3),
                ("(1 : 2)", 3), ("(1 ? 2)", 6), ("(1 ? 2 ", 7), ("(1 ? 2 + 3)", 7), ("(1 ? 2 :3)", 8),
                ("(1 ? 2 : 3 : 4)", 10), ("(1 + 2 : 3)", 6), ("!", 1), ("!)", 1), ("! 1", 1), ("!!", 2), ("!1!", 2),
                ("(! + 1)", 2), ("(01 + 1)", 2), ("((1 + 2)+ 3)", 8), ("\n", 0), ("1\n", 1), ("#\t", 1), ("1.0", 1)):
            self.assertEqual(place_of(read_command, text), place, text)
            self.assertEqual(told_by_grammar("command", text), (False, place), text)


class BookTexts(unittest.TestCase):
    def test_empty_lists(self):
        self.assertEqual(job_text(job("a")), "job a all needs - uses - length 1 tries 1 start 0 urgency 0 does 1")
        self.assertEqual(book_text(((), ())), "things -")
        self.assertEqual(book_text(((), (job("a"),))), "things -\n" + job_text(job("a")))

    def test_full_lists(self):
        full = job("ab", ("b", "c"), ("plus", ("result", "b"), ("value", 12)), "all", (("cpu", 1), ("pen", 2)), 3, 2, 0, -5)
        self.assertEqual(job_text(full), LINE)
        self.assertEqual(read_job(LINE), full)
        book = ((("cpu", 2), ("pen", 0)), (job("a", (), ("value", None)), full))
        self.assertEqual(book_text(book), BOOK)
        self.assertEqual(read_book(BOOK), book)

    def test_modes(self):
        self.assertEqual(read_job(LINE.replace(" all ", " ended "))[1], "ended")
        self.assertIn("job a ended needs", job_text(job("a", mode="ended")))

    def test_any_number_and_beyond_the_bounds(self):
        line = ("job z ended needs z, a, a uses cpu 0, cpu 999999999 length 0 tries 999999999 start 100000 "
                "urgency -999999999 does " + "!" * 60 + "0")
        read = read_job(line)
        self.assertEqual(read[:3], ("z", "ended", ("z", "a", "a")))
        self.assertEqual(read[4:], ((("cpu", 0), ("cpu", 999999999)), 0, 999999999, 100000, -999999999))
        self.assertEqual(job_text(read), line)
        text = "things b 1, a 0, b 7\n" + line + "\n" + line
        self.assertEqual(read_book(text), ((("b", 1), ("a", 0), ("b", 7)), (read, read)))
        self.assertEqual(book_text(read_book(text)), text)
        self.assertIs(is_book(read_book(text)), False)

    def test_places_of_jobs(self):
        for text, place in (
                ("x", 0), ("jobs", 3), ("job", 3), ("job ", 4), ("job  a", 4), ("job A", 4), ("job abcdefghi", 12),
                ("job a any", 7), ("job a x", 6), ("job a endless", 9), ("job a all  ", 10), ("job a all need ", 14),
                ("job a all needs ", 16), ("job a all needs -,", 17), ("job a all needs b,c", 18),
                ("job a all needs b, ", 19), ("job a all needs b, -", 19), ("job a all needs b c", 18),
                ("job a all needs b uses cpu", 26), ("job a all needs b uses cpu 01", 28),
                ("job a all needs b uses cpu -1", 27), ("job a all needs b uses cpu 1,", 29),
                ("job a all needs b uses cpu 1234567890", 36), ("job a all needs b uses - length -1", 32),
                (LINE.replace("tries 2", "tries -2"), LINE.index("tries ") + 6),
                (LINE.replace("start 0", "start -1"), LINE.index("start ") + 6),
                (LINE.replace("urgency -5", "urgency -0"), LINE.index("urgency ") + 9),
                (LINE.replace("urgency -5", "urgency +5"), LINE.index("urgency ") + 8),
                (LINE + " ", len(LINE)), (LINE + "\n", len(LINE)), (LINE[:-1], len(LINE) - 1)):
            self.assertEqual(place_of(read_job, text), place, text)
            self.assertEqual(told_by_grammar("job", text), (False, place), text)

    def test_places_of_books(self):
        for text, place in (
                ("thing ", 5), ("things", 6), ("things ", 7), ("things - ", 8), ("things -\n", 9), ("things -\n\n", 9),
                ("things cpu", 10), ("things cpu 1 ", 12), ("things cpu -1", 11), ("things cpu 1,", 13),
                ("things cpu 1,pen", 13), ("things , ", 7), ("things 1", 7), ("things -\njob a any", 16),
                (BOOK + "\n", len(BOOK) + 1), (BOOK + " ", len(BOOK)), ("\n" + BOOK, 0), (BOOK + "\n\n", len(BOOK) + 1),
                (BOOK.replace("\n", "\n\n"), BOOK.index("\n") + 1), (BOOK.replace("\n", "\t"), BOOK.index("\n"))):
            self.assertEqual(place_of(read_book, text), place, text)
            self.assertEqual(told_by_grammar("book", text), (False, place), text)


class ReadAndWritten(unittest.TestCase):
    def test_books_by_chance(self):
        chance = random.Random(6)
        for many in (0, 1, 2, 5, 40):
            for _ in range(8):
                book = random_book(chance, many)
                text = book_text(book)
                self.assertEqual(read_book(text), book)
                for each in book[1]:
                    self.assertEqual(read_job(job_text(each)), each)
                    self.assertEqual(read_command(command_text(each[3])), each[3])
                self.assertEqual(text.split("\n")[1:], [job_text(each) for each in book[1]])

    def test_commands_by_chance(self):
        chance = random.Random(7)
        for _ in range(800):
            command = random_command(chance, NAMES, chance.randint(0, 6))
            self.assertEqual(read_command(command_text(command)), command)

    def test_all_values(self):
        for value in VALUES:
            self.assertEqual(read_command(command_text(("value", value))), ("value", value))


class SpoiledTexts(unittest.TestCase):
    """Texts that are nearly right, beside a grammar of the language."""

    def assert_as_grammar(self, rule, text):
        read, write = {row[0]: row[1:] for row in READERS}[rule]
        can_be_read, place = told_by_grammar(rule, text)
        self.assertEqual(place_of(read, text), None if can_be_read else place, text)
        if can_be_read:
            self.assertEqual(write(read(text)), text)

    def spoiled(self, chance, text):
        k, sign = chance.randrange(len(text) + 1), chance.choice(PRINTED + '()!@#",-0123 ;:?abz' * 3)
        return chance.choice((text[:k], text[:k] + sign + text[k:], text[:k] + text[k + 1:], text[:k] + sign + text[k + 1:],
                              text + sign, text[:k] + text[k + 1:k + 2] + text[k:k + 1] + text[k + 2:]))

    def test_commands(self):
        chance = random.Random(8)
        for _ in range(600):
            text = command_text(random_command(chance, ("a", "abcdefgh"), 3))
            for _ in range(chance.randint(1, 2)):
                text = self.spoiled(chance, text)
            self.assert_as_grammar("command", text)

    def test_each_sign_in_each_place(self):
        for text in ('(!@ab ? ("x" ~ ()) : (-20 < #))', "(0 ; 5)", "-7", "!", "@"):
            for k in range(len(text) + 1):
                for sign in PRINTED:
                    self.assert_as_grammar("command", text[:k] + sign + text[k:])
                    self.assert_as_grammar("command", text[:k] + sign + text[k + 1:])
        for k in range(len(LINE) + 1):
            for sign in "ax,-09 ":
                self.assert_as_grammar("job", LINE[:k] + sign + LINE[k:])

    def test_jobs_and_books(self):
        chance = random.Random(9)
        for _ in range(60):
            book = random_book(chance, 2, deep=2)
            self.assert_as_grammar("job", self.spoiled(chance, job_text(book[1][0])))
            self.assert_as_grammar("book", self.spoiled(chance, book_text(book)))

    def test_each_place_of_one_book(self):
        ends = [BOOK.index(", pen 0"), BOOK.index("\n"), BOOK.index("\n" + LINE)]
        for k in range(len(BOOK)):
            self.assertEqual(place_of(read_book, BOOK[:k]), None if k in ends else k, k)
            self.assertEqual(place_of(read_book, BOOK[:k] + "\n"), k + 1 if k in ends else k, k)
            for sign in "\tA":
                self.assertEqual(place_of(read_book, BOOK[:k] + sign), k, (k, sign))

    def test_none_of_them_is_other_than_told(self):
        for text in ("a", "abc", "job", "\t\n", "A b", "~" * 200):
            for rule, _, _ in READERS:
                self.assert_as_grammar(rule, text)


class Bounds(unittest.TestCase):
    """[2.5], and somewhat beyond."""

    def test_hundred_within_one_another(self):
        for deep in (100, 1000):
            for build in (lambda e: ("not", e), lambda e: ("plus", e, ("attempt",)), lambda e: ("if", ("attempt",), ("value", -1), e),
                          lambda e: ("demand", ("value", None), e)):
                command = ("value", "a")
                for _ in range(deep - 1):
                    command = build(command)
                text = command_text(command)
                self.assertEqual(command_text(read_command(text)), text)
                self.assertEqual(place_of(read_command, text[:-1] + "\t"), len(text) - 1)

    def test_eight_thousand_signs(self):
        flat = ["1"] * 1200
        while len(flat) > 1:
            flat = [f"({flat[k]} + {flat[k + 1]})" if k + 1 < len(flat) else flat[k] for k in range(0, len(flat), 2)]
        self.assertGreater(len(flat[0]), 6000)
        self.assertEqual(command_text(read_command(flat[0])), flat[0])
        self.assertEqual(place_of(read_command, flat[0][:-1]), len(flat[0]) - 1)
        for sign, place in (("(", 8000), ("!", 8000), ("1", 9), ("-", 1), ("a", 0), ('"', 2)):
            self.assertEqual(place_of(read_command, sign * 8000), place)
        things = "things " + ", ".join(["a 1"] * 1500)
        self.assertEqual(book_text(read_book(things)), things)
        lines = "things -" + ("\n" + job_text(job("a"))) * 120
        self.assertEqual(len(read_book(lines)[1]), 120)
        self.assertEqual(place_of(read_book, lines + "\njob"), len(lines) + 4)

    def test_forty_jobs_and_twenty_things(self):
        chance = random.Random(10)
        book = random_book(chance, 40)
        things = tuple(("t" + chr(97 + k), k) for k in range(20))
        self.assertEqual(read_book(book_text((things, book[1]))), (things, book[1]))
        self.assertEqual(read_book(book_text(WEB)), WEB)


if __name__ == "__main__":
    unittest.main()
