"""Work that is kept on lists, so that what is deep needs no deep recursion."""


def taken_off(rows, many):
    """Takes the last members off a list, and returns them in their order."""
    first = len(rows) - many
    members = rows[first:]
    del rows[first:]
    return members


def is_made_of(value, most, has_form, inner_parts):
    """Returns whether it, and all parts within it, have the form, and are no more than most.

    has_form tells of a part whether it is right but for the parts that stand directly in it;
    inner_parts returns these.
    """
    many = 0
    waiting = [value]
    while waiting:
        part = waiting.pop()
        many += 1
        # What has too many parts may have far too many to look at them all.
        if many > most or not has_form(part):
            return False
        waiting.extend(inner_parts(part))
    return True


def is_same(value, due):
    """Returns whether any value equals one that is made of tuples, texts, integers and None.

    True and False equal none of these, though Python's == takes them for 1 and 0.
    """
    waiting = [(value, due)]
    while waiting:
        part, told = waiting.pop()
        if isinstance(told, tuple):
            if not isinstance(part, tuple) or len(part) != len(told):
                return False
            waiting.extend([(part[k], told[k]) for k in range(len(told))])
        elif isinstance(part, bool) or part != told:
            return False
    return True
