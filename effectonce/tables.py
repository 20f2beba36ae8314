"""Dicts made of dicts, as none that was passed is ever changed."""


def with_fields(table, more):
    """Returns the dict with what stands in more, in the place of what stood there."""
    changed = {key: table[key] for key in table}
    for key in more:
        changed[key] = more[key]
    return changed


def without_key(table, key):
    """Returns the dict without what stands under this key, if something does."""
    return {other: table[other] for other in table if other != key}


def pairs_of(table):
    """Returns the ascending tuple of the pairs of key and what stands there."""
    return tuple(sorted(table.items()))
