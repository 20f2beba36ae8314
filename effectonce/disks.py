"""Disks: words written one behind another, and what is left of them when a disk is cut short."""

from effectonce.errors import BadDisk, BadText
from effectonce.letters import goes_to, is_letter
from effectonce.seals import read_records, read_word, records, word_text
from effectonce.sorts import are_of_sorts, is_of_sort

# What stands behind the word of each record of a machine.
MACHINE_SORTS = {
    "took": ("job", "fence", "attempt", "results"),
    "step": ("fence", "steps"),
    "gone": ("fence",),
}


def words_on(disk):
    """Returns the tuple of the words on a disk; raises BadDisk(k) if the text number k is no word's."""
    words = []
    for k, text in enumerate(read_records(disk)[0]):
        try:
            words.append(read_word(text))
        except BadText:
            raise BadDisk(k) from None
    return tuple(words)


def mended(disk):
    """Returns the disk without its torn end."""
    return disk[:len(disk) - len(read_records(disk)[1])]


def _written_so(words):
    return records([word_text(word) for word in words])


def written(disk, words):
    """Returns the disk, mended, with these words behind it."""
    return mended(disk) + _written_so(words)


def torn(disk, words, keep):
    """Returns the disk, mended, with as many signs behind it as were kept of what is written for these words."""
    return mended(disk) + _written_so(words)[:keep]


def is_record(who, value):
    """Returns whether it is a record of the store, of the keeper or of a machine."""
    if not isinstance(value, tuple) or not value:
        return False
    if who == "store":
        return value == ("tick",) or _is_heard(value)
    if who == "keeper":
        return value[0] == "epoch" and are_of_sorts(value[1:], ("epoch",))
    word = value[0]
    return isinstance(word, str) and word in MACHINE_SORTS and are_of_sorts(value[1:], MACHINE_SORTS[word])


def _is_heard(value):
    """Returns whether it is a time with a letter to the store."""
    if len(value) != 2 or not is_of_sort("time", value[0]):
        return False
    return is_letter(value[1]) and goes_to(value[1]) == ("store",)
