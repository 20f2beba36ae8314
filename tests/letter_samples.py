"""Letters of each word, with what may and what may not stand in each part."""

from tests.samples import nested

HOLD = (3, 0, 1, 4, 2)
DONE, FAILED = ("done", 1, 1, 0, 3, 7), ("failed", 1, 1, 0, 3, None)

# For each sort what is right, at its bounds, and what is not, just beyond them and near.
NO_NUMBERS = (True, False, None, "", "1", (), (1,), [1], {}, nested(14, 1))
NO_TABLES = (None, True, 0, "", "a", [], {}, {"a": 1}, (None,), ("a",), ((),), (("a",),), (["a", 1],))
ONES = (1, 2, 77, 10 ** 59), (0, -1, -10 ** 59) + NO_NUMBERS
NOUGHTS = (0, 1, 10 ** 59), (-1, -10 ** 59) + NO_NUMBERS
NAMES = ("a", "z", "abcdefgh"), ("", "abcdefghi", "A", "a1", "a b", "-", None, True, 1, ("a",), ["a"], {"a": 1})


def tables(good, bad):
    """Tuples of pairs with such seconds: right ones, and near ones."""
    one = good[0]
    right = [(), (("a", one),), (("a", one), ("b", one)), (("a", one), ("ab", one), ("b", one))]
    right += [(("b", each),) for each in good]
    right.append(tuple((name, one) for name in "abcdefghijklmnop"))
    wrong = list(NO_TABLES) + [((name, one),) for name in NAMES[1]] + [(("b", each),) for each in bad]
    wrong += [(("a", one), ("a", one)), (("b", one), ("a", one)), (("a", one), ("c", one), ("b", one)), (("a", one), ("b", one), ("a", one)),
              [("a", one)], (("a", one, one),), (("a", one), ["b", one]), (("a", one), None), ("a", one), {"a": one}]
    if len(good) > 1:
        wrong.append((("a", good[0]), ("a", good[1])))
    return tuple(right), tuple(wrong)


VALUES = (7, None, 0, -5, 10 ** 59, "", "a_B-1 ", "x" * 24), (True, False, "a.b", "x" * 25, "\n", "~", (), (7,), [7], {}, nested(14, 7))


def exchanged(row, k, value):
    return row[:k] + (value,) + row[k + 1:]


def rows_with(row, parts):
    """The row with each part exchanged for others: right ones, and near ones; parts are (good, bad), or None where none may."""
    right, wrong = [row], [row[:-1], row + (1,), list(row), row[1:], (), None, row[0], {row[0]: 1}]
    for k, told in enumerate(parts):
        if told is not None:
            right += [exchanged(row, k, value) for value in told[0]]
            wrong += [exchanged(row, k, value) for value in told[1]]
    return tuple(right), tuple(wrong)


MACHINES = tuple(range(8)), (-1, 8, 9, 10 ** 59) + NO_NUMBERS
HOLDS = rows_with(HOLD, (ONES, MACHINES, ONES, NOUGHTS, NOUGHTS))
RISING = (2, 3, 10 ** 59), (1, 0, -1, -10 ** 59) + NO_NUMBERS
BEGUN = (0, 1, 2), (3, 4, 10 ** 59, -1) + NO_NUMBERS
ENDS_DONE = rows_with(DONE, ((("done",), ("Done", "", "ended", None, 1, True, ("done",), ["done"])), ONES, BEGUN, NOUGHTS, RISING, VALUES))
ENDS_FAILED = rows_with(FAILED, ((("failed",), ("fail", None, 0)), ONES, BEGUN, NOUGHTS, RISING,
                                 ((None,), (0, 1, "", "a", False, True, (), []))))
ENDINGS = ENDS_DONE[0] + ENDS_FAILED[0], ENDS_DONE[1] + ENDS_FAILED[1]
LOTS = tuple((each,) for each in ENDINGS[0]) + ((FAILED, DONE), (DONE, DONE), (FAILED,) * 5), \
    tuple((each,) for each in ENDINGS[1]) + tuple((DONE, each) for each in ENDINGS[1][:12]) + ((), None, [DONE], DONE, (DONE, None), {}, 1)

TO_STORE = (("take", 1), ("grant", 1, "a", 3, 0), ("free", 1, "a", 3), ("bar", 1, "b", "a"), ("ask", 1))
END = ("end", 0, "a", 3, 1, ("done", 7))
TO_KEEPER = (("taken", 1), ("granted", 1, "a", 3, 0, 1, (("b", None),)), ("freed", 1, "a", 3), ("barred", 1, "b"), ("no", 1, ("take", 1)),
             ("told", 1, 4, 2, 3, (("a", HOLD),), (("b", (FAILED, DONE)),), (("c", "b"),)))
TO_MACHINES = (("work", 1, 5, "a", 3, 1, (("b", 4),)), ("ended", 5, "a", 3), ("refused", 5, "a", 3))
LETTERS = TO_STORE + (END,) + TO_KEEPER + TO_MACHINES

SORTS = {
    "epoch": ONES, "fence": ONES, "attempt": ONES, "moment": NOUGHTS, "time": NOUGHTS, "machine": MACHINES, "job": NAMES, "need": NAMES,
    "last": NOUGHTS, "results": tables(*VALUES), "holds": tables(*HOLDS), "ends": tables(*LOTS), "barred": tables(*NAMES),
    "outcome": ((("done", 7), ("done", None), ("done", "x"), ("done", -10 ** 59), ("failed",)),
                (("done",), ("failed", 1), ("failed", None), ("done", True), ("done", "a.b"), ("done", ()), ("done", 1, 7), ("barred", "a"),
                 ["failed"], ["done", 7], "failed", (), None, 7, ("fail",), (("done", 7),), {"done": 7})),
    "asked": (TO_STORE, (END,) + TO_KEEPER + TO_MACHINES + (("take", 0), ("take", True), ("take",), ("grant", 1, "a", 3), ("grant", 1, "a", 3, 8),
              ["take", 1], ("ask", "1"), (), None, 1, "take", ("no", 1, ("take", 1)), ("bar", 1, "b", "A"), ("free", 1, "a", 0), (["take"], 1))),
}
PARTS = {
    "take": "epoch", "grant": "epoch job fence machine", "free": "epoch job fence", "bar": "epoch job need", "ask": "epoch",
    "end": "machine job fence attempt outcome", "taken": "epoch", "granted": "epoch job fence machine attempt results",
    "freed": "epoch job fence", "barred": "epoch job", "no": "last asked", "told": "epoch moment time last holds ends barred",
    "work": "epoch machine job fence attempt results", "ended": "machine job fence", "refused": "machine job fence",
}
EXAMPLE = {letter[0]: letter for letter in LETTERS}


def near_letters(word):
    """Triples of a value, like the letter with this word, with one part exchanged, the part's number, and whether it is right."""
    for k, sort in enumerate(PARTS[word].split()):
        for right in (True, False):
            for value in SORTS[sort][0 if right else 1]:
                yield exchanged(EXAMPLE[word], k + 1, value), k + 1, right
