"""Words and seals by plain recursion and patterns, made from the document's words alone."""

import re

INTEGER, BEGUN_INTEGER = re.compile(r"(0|-?[1-9][0-9]*);"), re.compile(r"0|-?([1-9][0-9]*)?")
COUNT, BEGUN_COUNT = re.compile(r"(0|[1-9][0-9]*):"), re.compile(r"0|([1-9][0-9]*)?")
PLAIN = re.compile(r"[ -~]*")
SINGLE = {"N": None, "T": True, "F": False}


class Bad(Exception):
    """No word goes on at args[0]."""


def naive_word_text(word):
    if word in (None, True, False) and not (isinstance(word, int) and not isinstance(word, bool)):
        return {None: "N", True: "T", False: "F"}[word]
    if isinstance(word, tuple):
        return "(" + "".join(naive_word_text(each) for each in word) + ")"
    return f"i{word};" if isinstance(word, int) else f"t{len(word)}:{word}"


def naive_read(text):
    """("word", the word), or ("bad", the place)."""
    try:
        word, end = _word_at(text, 0)
        return ("word", word) if end == len(text) else ("bad", end)
    except Bad as bad:
        return ("bad", bad.args[0])


def _word_at(text, at):
    sign = text[at:at + 1]
    if sign in SINGLE:
        return SINGLE[sign], at + 1
    if sign == "i":
        found = INTEGER.match(text, at + 1)
        if not found:
            raise Bad(BEGUN_INTEGER.match(text, at + 1).end())
        return int(found.group(1)), found.end()
    if sign == "t":
        found = COUNT.match(text, at + 1)
        if not found:
            raise Bad(BEGUN_COUNT.match(text, at + 1).end())
        many, first = int(found.group(1)), found.end()
        if PLAIN.match(text[first:first + many]).end() < many:
            raise Bad(first + PLAIN.match(text[first:first + many]).end())
        return text[first:first + many], first + many
    if sign != "(":
        raise Bad(at)
    members, at = (), at + 1
    while text[at:at + 1] != ")":
        member, at = _word_at(text, at)
        members += (member,)
    return members, at + 1


def naive_check(text):
    left = len(text)
    for sign in text:
        left = (left * 131 + ord(sign)) % 99991
    return "%05d" % left


def naive_records(text):
    """The texts sealed at its beginning, and the rest."""
    texts = []
    while True:
        found = COUNT.match(text)
        if not found or len(found.group(1)) > 9:
            return tuple(texts), text
        first, many = found.end(), int(found.group(1))
        inner = text[first:first + many]
        if len(inner) < many or PLAIN.match(inner).end() < many or text[first + many:first + many + 5] != naive_check(inner):
            return tuple(texts), text
        texts.append(inner)
        text = text[first + many + 5:]


SIGNS = "".join(chr(k) for k in range(32, 127))


def random_text(chance, most=12):
    return "".join(chance.choice(SIGNS if chance.randrange(2) else "0123456789:;()itN-") for _ in range(chance.randrange(most)))


def random_word(chance, deep):
    pick = chance.randrange(8)
    if deep and pick < 3:
        return tuple(random_word(chance, deep - 1) for _ in range(chance.randrange(4)))
    if pick < 5:
        return chance.choice((0, 1, -1, 10, -10, 100, chance.randrange(-10 ** 6, 10 ** 6), 10 ** chance.randrange(80)))
    return chance.choice((None, True, False, (), "", random_text(chance)))
