"""Values and names: what jobs make, and what things and jobs are called."""

LONGEST_TEXT = 24
LONGEST_NAME = 8
LETTERS = "abcdefghijklmnopqrstuvwxyz"
SIGNS = "abcdefghijklmnopqrstuvwxyzABCDEFGHIJKLMNOPQRSTUVWXYZ0123456789 -_"


def is_whole(value):
    """True and False are no integers here, though Python takes them for 1 and 0."""
    return isinstance(value, int) and not isinstance(value, bool)


def is_between(value, low, high):
    """Returns whether it is an integer from low to high."""
    return is_whole(value) and low <= value <= high


def is_value(value):
    """Returns whether it is None, an integer, or a short text of plain signs."""
    if isinstance(value, str):
        return len(value) <= LONGEST_TEXT and all(sign in SIGNS for sign in value)
    return value is None or is_whole(value)


def is_name(value):
    """Returns whether it is a text of one to eight small letters."""
    if not isinstance(value, str):
        return False
    return 1 <= len(value) <= LONGEST_NAME and all(sign in LETTERS for sign in value)


def rank(value):
    """Returns a tuple that orders values: None, then integers, then texts."""
    if value is None:
        return (0,)
    return (2, value) if isinstance(value, str) else (1, value)


def kept_text(text):
    """Returns as much of a text as a value can have."""
    return text[:LONGEST_TEXT]


def is_true(value):
    """Returns whether a value is an integer other than 0."""
    return is_whole(value) and value != 0
