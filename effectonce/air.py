"""The air: letters on their way, the elder ones first."""

from effectonce.letters import goes_to


def taken_out(air, k):
    """Returns the letter number k, counted round and round, and the air without it."""
    if not air:
        return (None, ())
    place = k % len(air)
    return (air[place], air[:place] + air[place + 1:])


def doubled(air, k):
    """Returns the air with the letter number k, counted round and round, once more at its end."""
    return air + (air[k % len(air)],) if air else ()


def for_whom(air, whom):
    """Returns the tuple of the letters in it that are for one."""
    return tuple(letter for letter in air if goes_to(letter) == whom)
