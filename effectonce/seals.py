"""Words written as texts, and texts sealed, so that what is cut short is told from what is whole."""

from effectonce.digits import DIGITS, signed_digits
from effectonce.reader import Reader, is_plain

CHECK_DIGITS = 5

# The signs with which a word begins; within a tuple its end may come instead.
FIRST_SIGNS = "NTFit("

# What is to be done with a part: to begin it, or to end the tuple that it is.
BEGIN = 0
END = 1


def word_text(word):
    """Returns the text of a word."""
    written = []
    waiting = [(BEGIN, word)]
    while waiting:
        step, part = waiting.pop()
        if step == END:
            written.append(")")
        elif isinstance(part, tuple):
            written.append("(")
            waiting.append((END, part))
            waiting.extend([(BEGIN, member) for member in part[::-1]])
        else:
            written.append(_single_text(part))
    return "".join(written)


def _single_text(word):
    """Returns the text of a word that is no tuple."""
    if word is None:
        return "N"
    # These go first, as Python takes them for integers.
    if word is True:
        return "T"
    if word is False:
        return "F"
    if isinstance(word, str):
        return f"t{len(word)}:{word}"
    return f"i{signed_digits(word)};"


def read_word(text):
    """Returns the word that is written so; raises BadText(place) if there is none."""
    reader = Reader(text)
    # The first list takes the word itself, the others take the members of tuples that have begun.
    begun = [[]]
    while not begun[0]:
        sign = reader.take_sign(FIRST_SIGNS + ")" if len(begun) > 1 else FIRST_SIGNS)
        if sign == "(":
            begun.append([])
        elif sign == ")":
            members = begun.pop()
            begun[-1].append(tuple(members))
        else:
            begun[-1].append(_single_from(reader, sign))
    reader.take_end()
    return begun[0][0]


def _single_from(reader, sign):
    """Reads what stands behind the first sign of a word that is no tuple."""
    most = len(reader.text)
    if sign == "i":
        number = reader.take_signed(most)
        reader.take_word(";")
        return number
    if sign == "t":
        many = reader.take_number(most)
        reader.take_word(":")
        return reader.take_plain(many)
    return None if sign == "N" else sign == "T"


def check_of(text):
    """Returns the five digits that tell a text from others."""
    left = len(text)
    for sign in text:
        left = (131 * left + ord(sign)) % 99991
    return str(left).zfill(CHECK_DIGITS)


def sealed(text):
    """Returns the text with how long it is ahead of it, and its check behind it."""
    return f"{len(text)}:{text}{check_of(text)}"


def records(texts):
    """Returns the text of all these texts, sealed, one behind another."""
    return "".join([sealed(text) for text in texts])


def read_records(text):
    """Returns the tuple of the texts that stand sealed at its beginning, and what is left behind them."""
    texts = []
    place = 0
    found = _seal_at(text, place)
    while found is not None:
        texts.append(found[0])
        place = found[1]
        found = _seal_at(text, place)
    return (tuple(texts), text[place:])


def _seal_at(text, place):
    """Returns the text whose seal stands at a place, and where the seal ends; None if there is none."""
    colon = text.find(":", place)
    if colon < 0 or not _is_count(text[place:colon], len(text)):
        return None
    first = colon + 1
    last = first + int(text[place:colon])
    inner = text[first:last]
    end = last + CHECK_DIGITS
    # What is cut short, or has other signs, has no check to look at.
    if end > len(text) or not is_plain(inner) or text[last:end] != check_of(inner):
        return None
    return (inner, end)


def _is_count(digits, most):
    """Returns whether these are the digits of a number that may be as great as this one."""
    # Longer rows of digits tell more signs than there are, however many these are.
    if not digits or len(digits) > len(str(most)):
        return False
    return all(sign in DIGITS for sign in digits) and (digits == "0" or digits[0] != "0")
