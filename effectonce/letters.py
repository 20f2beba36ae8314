"""Letters: what keeper, store and machines tell one another."""

from effectonce.errors import BadText
from effectonce.seals import read_records, read_word, sealed, word_text
from effectonce.sorts import are_of_sorts, is_of_sort

# What stands behind the word of each letter.
SORTS = {
    "take": ("epoch",),
    "grant": ("epoch", "job", "fence", "machine"),
    "free": ("epoch", "job", "fence"),
    "bar": ("epoch", "job", "need"),
    "ask": ("epoch",),
    "end": ("machine", "job", "fence", "attempt", "outcome"),
    "taken": ("epoch",),
    "granted": ("epoch", "job", "fence", "machine", "attempt", "results"),
    "freed": ("epoch", "job", "fence"),
    "barred": ("epoch", "job"),
    "no": ("last_epoch", "asked"),
    "told": ("epoch", "moment", "time", "last_fence", "holds", "ends", "barred"),
    "work": ("epoch", "machine", "job", "fence", "attempt", "results"),
    "ended": ("machine", "job", "fence"),
    "refused": ("machine", "job", "fence"),
}

# The letters from the keeper to the store, each with the word of the letter that grants it,
# and how many parts of the letter stand in this one, too.
ASKED = {
    "take": ("taken", 1), "grant": ("granted", 4), "free": ("freed", 3), "bar": ("barred", 2), "ask": ("told", 1),
}

TO_MACHINES = ("work", "ended", "refused")

# The fields of a store that hearing a letter may change.
FIELDS = {
    "take": ("epoch", "moment"),
    "grant": ("fence", "holds", "moment"),
    "free": ("freed", "holds", "moment"),
    "bar": ("barred", "moment"),
    "end": ("ends", "holds", "moment"),
}


def _has_form(value):
    """Returns whether it is a tuple of the word of a letter, and of as many parts as it has."""
    if not isinstance(value, tuple) or not value or not isinstance(value[0], str):
        return False
    return value[0] in SORTS and len(value) == 1 + len(SORTS[value[0]])


def judge_letter(value):
    """Returns None if it is a letter, else the first of its faults."""
    if not _has_form(value):
        return ("form",)
    for k, sort in enumerate(SORTS[value[0]]):
        part = value[k + 1]
        if not (_is_asked(part) if sort == "asked" else is_of_sort(sort, part)):
            return ("part", k + 1)
    return None


def _is_asked(value):
    """Returns whether it is a letter from the keeper to the store."""
    return _has_form(value) and value[0] in ASKED and are_of_sorts(value[1:], SORTS[value[0]])


def is_letter(value):
    """Returns whether it is a letter."""
    return judge_letter(value) is None


def goes_to(letter):
    """Returns for whom a letter is."""
    if letter[0] in ASKED or letter[0] == "end":
        return ("store",)
    if letter[0] in TO_MACHINES:
        return ("machine", letter[1 + SORTS[letter[0]].index("machine")])
    return ("keeper",)


def letter_text(letter):
    """Returns the text of a letter, sealed."""
    return sealed(word_text(letter))


def read_letter(value):
    """Returns the letter that is written so, None if there is none."""
    if not isinstance(value, str):
        return None
    texts, rest = read_records(value)
    if len(texts) != 1 or rest != "":
        return None
    try:
        word = read_word(texts[0])
    except BadText:
        return None
    return word if is_letter(word) else None


def is_answer(letter, answer):
    """Returns whether one letter answers another."""
    word = letter[0]
    if word == "end":
        return answer[0] in ("ended", "refused") and answer[1:] == letter[1:4]
    if word not in ASKED:
        return False
    if answer[0] == "no":
        return answer[2] == letter
    granting, many = ASKED[word]
    return answer[0] == granting and answer[1:1 + many] == letter[1:1 + many]


def unanswered(sent, heard):
    """Returns the tuple of the letters to the store that no letter heard answers, each once."""
    left = []
    for letter in sent:
        if goes_to(letter) == ("store",) and letter not in left:
            if not any(is_answer(letter, answer) for answer in heard):
                left.append(letter)
    return tuple(left)


def fields_of(letter):
    """Returns the ascending tuple of the fields of a store that hearing the letter may change."""
    return FIELDS.get(letter[0], ())
