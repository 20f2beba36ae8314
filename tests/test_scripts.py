"""[14.1]: events and scripts as texts, written and read."""

import random
import unittest

from effectonce.errors import BadText
from effectonce.scripts import event_text, read_event, read_script, script_text
from tests.oracles import told_by_grammar
from tests.samples import ODD_VALUES

LONG = int("9" * 400)
ROWS = (
    (("tick",), "tick"), (("keeper",), "keeper"), (("again",), "again"), (("lapse", "a"), "lapse a"), (("lapse", "abcdefgh"), "lapse abcdefgh"),
    (("work", 0), "work 0"), (("work", 1), "work 1"), (("hear", 3), "hear 3"), (("lose", 0), "lose 0"), (("double", 2), "double 2"),
    (("hear", LONG), "hear " + "9" * 400), (("lose", 10 ** 399), "lose 1" + "0" * 399), (("double", 10), "double 10"), (("work", 70), "work 70"),
    (("fall", ("store",)), "fall store"), (("fall", ("keeper",)), "fall keeper"), (("fall", ("machine", 1)), "fall machine 1"),
    (("back", ("store",)), "back store"), (("back", ("keeper",)), "back keeper"), (("back", ("machine", 10)), "back machine 10"),
    (("back", ("machine", LONG)), "back machine " + "9" * 400),
    (("torn", ("hear", 0), 12), "torn 12 hear 0"), (("torn", ("back", ("keeper",)), 0), "torn 0 back keeper"), (("torn", ("tick",), LONG), "torn " + "9" * 400 + " tick"),
    (("torn", ("work", 7), 1), "torn 1 work 7"), (("torn", ("back", ("machine", 0)), 5), "torn 5 back machine 0"), (("torn", ("back", ("store",)), 5), "torn 5 back store"),
)
# Pairs of a text and how many signs of it begin some event's text.
NEAR = (
    ("", 0), (" ", 0), ("\n", 0), ("x", 0), ("t", 1), ("ti", 2), ("to", 2), ("tu", 1), ("tic", 3), ("tick ", 4), ("ticks", 4), ("Tick", 0), (" tick", 0),
    ("tick\n", 4), ("tick tick", 4), ("l", 1), ("la", 2), ("lo", 2), ("li", 1), ("keeper 1", 6), ("keep", 4), ("again 0", 5), ("lapse", 5), ("lapse ", 6),
    ("lapse  a", 6), ("lapse A", 6), ("lapse 1", 6), ("lapse abcdefghi", 14), ("lapse a ", 7), ("lapse a1", 7), ("lapsea", 5), ("work", 4), ("work ", 5),
    ("work -1", 5), ("work 00", 6), ("work 01", 6), ("work 1 ", 6), ("work a", 5), ("work 1.", 6), ("hear " + "9" * 401, 405), ("hear 0" + "9", 6),
    ("fall", 4), ("fall ", 5), ("fall s", 6), ("fall stores", 10), ("fall machine", 12), ("fall machine ", 13), ("fall machine 01", 14), ("fall machines 1", 12),
    ("fall air", 5), ("fall store 1", 10), ("fall  store", 5), ("back machine " + "1" * 401, 413), ("torn", 4), ("torn ", 5), ("torn 3", 6), ("torn 3 ", 7),
    ("torn 3 lose 1", 7), ("torn 3 keeper", 7), ("torn 3 torn 3 tick", 8), ("torn 3 t", 8), ("torn 3 fall store", 7), ("torn tick 3", 5), ("torn 03 tick", 6),
    ("torn 3 tick 3", 11), ("torn 3  tick", 7), ("torn " + "1" * 401 + " tick", 405), ("calm", 0), ("b", 1), ("backs", 4), ("back keepe", 10), ("again\t", 5),
    ("torn 3 back machine", 19), ("double", 6), ("double x", 7), ("lose 1\n", 6), ("h\u00e9ar 1", 1), ("tick\u00e9", 4), ("hear \u0663", 5),
)


def place_of(read, text):
    try:
        read(text)
    except BadText as error:
        return error.place
    return None


class Events(unittest.TestCase):
    def test_each_event(self):
        for event, text in ROWS:
            self.assertEqual(event_text(event), text)
            self.assertEqual(read_event(text), event)
            self.assertEqual(repr(read_event(text)), repr(event))

    def test_places(self):
        for text, place in NEAR:
            self.assertEqual(place_of(read_event, text), place, text)

    def test_no_texts(self):
        for value in ODD_VALUES:
            if not isinstance(value, str):
                for read in (read_event, read_script):
                    self.assertEqual(place_of(read, value), 0, value)

    def test_texts_cut_short(self):
        for _, text in ROWS:
            for k in range(len(text)):
                place = place_of(read_event, text[:k])
                # Some beginnings are texts of other events: of a lesser number, of a shorter name.
                self.assertIn(place, (None, k))
                if place is None:
                    self.assertEqual(event_text(read_event(text[:k])), text[:k])

    def test_more_digits_than_the_document_lets(self):
        self.assertEqual(event_text(("hear", 10 ** 5000)), "hear 1" + "0" * 5000)


class Scripts(unittest.TestCase):
    def test_written_and_read(self):
        script = [event for event, _ in ROWS]
        text = "\n".join(text for _, text in ROWS)
        self.assertEqual(script_text(script), text)
        self.assertEqual(script_text(tuple(script)), text)
        self.assertEqual(read_script(text), script)
        self.assertIsInstance(read_script(text), list)
        for event, text in ROWS:
            self.assertEqual((script_text([event]), read_script(text)), (text, [event]))

    def test_the_empty_one(self):
        self.assertEqual((script_text([]), read_script("")), ("", []))
        self.assertEqual([place_of(read_script, text) for text in (" ", "\n", "\n\n", "\ntick")], [0, 0, 0, 0])

    def test_places_are_counted_in_the_whole_text(self):
        for text, place in NEAR:
            if text != "" and "\n" not in text:
                self.assertEqual(place_of(read_script, text), place, text)
            for ahead in ("tick\n", "hear 12\nlapse a\n"):
                if "\n" not in text:
                    self.assertEqual(place_of(read_script, ahead + text), len(ahead) + place, text)
        for text, place in (("tick\n", 5), ("tick\n\ntick", 5), ("tick\n tick", 5), ("tick\ntick\n", 10), ("tick \ntick", 4), ("tick\r\ntick", 4),
                            ("tick;tick", 4), ("hear 1\nhear 01", 13), ("tick\ntorn 3 lose 1", 12)):
            self.assertEqual(place_of(read_script, text), place, text)

    def test_eight_thousand_signs(self):
        script = [("hear", k % 10) for k in range(1143)]
        text = script_text(script)
        self.assertEqual(len(text), 8000)
        self.assertEqual(read_script(text), script)
        self.assertEqual(place_of(read_script, text + "\n"), 8001)
        self.assertEqual(place_of(read_event, text), 6)
        self.assertEqual(place_of(read_event, "t" * 8000), 1)
        self.assertEqual(place_of(read_event, "hear " + "1" * 8000), 405)


class ByTheGrammar(unittest.TestCase):
    SIGNS = "abcdefghiklmnoprstuw 0123456789\nAx-\u00e9"

    def changed(self, chance, text):
        at = chance.randrange(len(text) + 1)
        pick = chance.randrange(5)
        if pick == 0:
            return text[:at]
        sign = chance.choice(self.SIGNS)
        if pick == 1:
            return text[:at] + sign + text[at:]
        return text[:at] + (sign if pick < 4 else "") + text[at + 1:]

    def assert_by_grammar(self, rule, read, write, text):
        right, place = told_by_grammar(rule, text)
        if right:
            self.assertEqual(write(read(text)), text)
        else:
            self.assertEqual(place_of(read, text), place, text)

    def test_texts_with_signs_put_in_left_out_and_exchanged(self):
        chance = random.Random(601)
        short = [text for _, text in ROWS if len(text) < 60]
        for _ in range(1500):
            text = chance.choice(short)
            for _ in range(chance.randint(1, 2)):
                text = self.changed(chance, text)
            self.assert_by_grammar("event", read_event, event_text, text)
        for _ in range(400):
            text = "\n".join(chance.choice(short) for _ in range(chance.randint(1, 4)))
            text = self.changed(chance, text)
            if text:
                self.assert_by_grammar("script", read_script, script_text, text)
        for text, _ in NEAR:
            self.assert_by_grammar("event", read_event, event_text, text)

    def test_events_by_chance(self):
        chance = random.Random(602)
        script = []
        for _ in range(300):
            who = chance.choice((("store",), ("keeper",), ("machine", chance.choice((0, 1, 7, 10 ** 50)))))
            event = chance.choice((("tick",), ("keeper",), ("again",), ("lapse", chance.choice(("a", "zz", "abcdefgh"))), ("work", chance.randrange(200)),
                                   ("hear", 10 ** chance.randrange(400)), ("lose", chance.randrange(20)), ("double", 0), ("fall", who), ("back", who)))
            if event[0] in ("tick", "work", "hear", "back") and chance.randrange(2):
                event = ("torn", event, chance.choice((0, 9, 10 ** 399)))
            self.assertEqual(read_event(event_text(event)), event)
            script.append(event)
        self.assertEqual(read_script(script_text(script)), script)


if __name__ == "__main__":
    unittest.main()
