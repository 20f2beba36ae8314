"""Copies that share no list and no dict with what they were made of."""

from effectonce.stacks import taken_off


def copied(value):
    """Returns an equal value in which each list and dict, however deep, is a new one."""
    done = []
    waiting = [(False, value)]
    while waiting:
        members_are_done, part = waiting.pop()
        if members_are_done:
            done.append(_built(part, taken_off(done, len(part))))
        elif isinstance(part, (list, tuple, dict)):
            waiting.append((True, part))
            waiting.extend([(False, member) for member in _members(part)[::-1]])
        else:
            done.append(part)
    return done[0]


def _members(part):
    return list(part.values()) if isinstance(part, dict) else list(part)


def _built(part, members):
    if isinstance(part, dict):
        return {key: members[k] for k, key in enumerate(part)}
    return tuple(members) if isinstance(part, tuple) else members
