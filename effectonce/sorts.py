"""The sorts of parts that letters and records are made of."""

from effectonce.values import is_between, is_name, is_value, is_whole

GREATEST_MACHINE = 7

# Integers, and from which one on they are. The last epoch, or fence, of a store that had none yet is 0.
LEAST_OF = {
    "epoch": 1, "fence": 1, "attempt": 1, "steps": 1,
    "moment": 0, "time": 0, "last_epoch": 0, "last_fence": 0,
}

HOLD_SORTS = ("fence", "machine", "attempt", "moment", "time")
ENDING_SORTS = ("fence", "moment", "time", "moment")


def are_of_sorts(parts, sorts):
    """Returns whether these are just as many parts as sorts, each of its own."""
    return len(parts) == len(sorts) and all(is_of_sort(sort, parts[k]) for k, sort in enumerate(sorts))


def is_of_sort(sort, value):
    """Returns whether any value is one of this sort."""
    if sort == "outcome":
        return _is_ended_so(value)
    if sort == "results":
        return _is_table(value) and all(is_value(worth) for _, worth in value)
    if sort == "holds":
        return _is_table(value) and all(_is_hold(hold) for _, hold in value)
    if sort == "ends":
        return _is_table(value) and all(_is_lot(lot) for _, lot in value)
    if sort == "barred":
        return _is_table(value) and all(is_name(need) for _, need in value)
    return _is_plain_sort(sort, value)


def _is_plain_sort(sort, value):
    if sort in LEAST_OF:
        return is_whole(value) and value >= LEAST_OF[sort]
    if sort == "machine":
        return is_between(value, 0, GREATEST_MACHINE)
    # What is left are jobs and needs.
    return is_name(value)


def _has_plain_sorts(value, sorts):
    if not isinstance(value, tuple) or len(value) != len(sorts):
        return False
    return all(_is_plain_sort(sort, value[k]) for k, sort in enumerate(sorts))


def _is_ended_so(value):
    if value == ("failed",):
        return True
    return isinstance(value, tuple) and len(value) == 2 and value[0] == "done" and is_value(value[1])


def _is_table(value):
    """Returns whether it is a tuple of pairs that ascend by names, each name once."""
    if not isinstance(value, tuple):
        return False
    for k, pair in enumerate(value):
        if not isinstance(pair, tuple) or len(pair) != 2 or not is_name(pair[0]):
            return False
        if k > 0 and pair[0] <= value[k - 1][0]:
            return False
    return True


def _is_hold(value):
    return _has_plain_sorts(value, HOLD_SORTS)


def _is_lot(value):
    return isinstance(value, tuple) and value != () and all(_is_ending(ending) for ending in value)


def _is_ending(value):
    if not isinstance(value, tuple) or len(value) != 6 or not _has_plain_sorts(value[1:5], ENDING_SORTS):
        return False
    if value[4] <= value[2]:
        return False
    return is_value(value[5]) if value[0] == "done" else value[0] == "failed" and value[5] is None
