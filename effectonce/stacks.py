"""Work that is kept on lists, so that what is deep needs no deep recursion."""


def taken_off(rows, many):
    """Takes the last members off a list, and returns them in their order."""
    first = len(rows) - many
    members = rows[first:]
    del rows[first:]
    return members
