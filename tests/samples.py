"""Books, commands and odd values that several tests use, also made by chance from a seed."""

WEB = ((("cpu", 2),), (
    ("a", "all", (), ("value", 3), (("cpu", 1),), 2, 1, 0, 0),
    ("b", "all", ("a",), ("plus", ("result", "a"), ("value", 4)), (), 1, 1, 0, 5),
    ("c", "all", ("a",), ("demand", ("below", ("value", 1), ("attempt",)), ("value", "ok")), (), 3, 2, 0, 0),
    ("d", "all", ("b",), ("demand", ("value", 0), ("value", 1)), (), 1, 2, 4, 0),
    ("e", "all", ("c", "d"), ("value", 1), (), 1, 1, 0, 0),
    ("f", "ended", ("d", "e"), ("if", ("is", ("result", "d"), ("value", None)), ("value", 7), ("result", "e")),
     (), 1, 1, 0, 0),
))

TWO_PARTS = ("plus", "less", "times", "is", "below", "and", "or", "joined", "demand")
VALUES = (None, 0, 1, -1, 2, 17, -40, "", "a", "ab", "Z-_ 9", "x" * 24)
NAMES = ("a", "b", "c", "ab", "zz", "abcdefgh")


def nested(deep, value):
    """A value with so many lists within one another."""
    for _ in range(deep):
        value = [value]
    return value


# What [0.3] calls any value: kinds that stand for nothing, and near ones.
ODD_VALUES = (
    None, True, False, 0, 1, -1, 5, 10 ** 59, -(10 ** 59), "", "a", "abc", "job", "\t\n", "A b", "~" * 200,
    (), [], {}, (None,), [None], ("a",), ["a"], ("a", "b"), ["a", "b"], (("a",),), [("a",)], (["a"],),
    ((), ()), ([], []), [(), ()], ((), [], {}), {"a": 1}, {1: ("done", 1, 1)}, {(): []},
    (True,), ((True,),), ("a", True), ("form",), ("done", 1, 1), ("failed", 1), ("barred", "a"),
    (("a", ("done", 1, 1)),), (("a", 1),), ((("a", 1),), ()), nested(14, "a"), (nested(13, ()),),
    ("value", True), ("value", [1]), ([], "a"), ({}, "a"), (None, "a"),
)


def job(name, needs=(), command=("value", 1), mode="all", uses=(), length=1, tries=1, start=0, urgency=0):
    return (name, mode, tuple(needs), command, tuple(uses), length, tries, start, urgency)


def book(*jobs, things=()):
    return (tuple(things), tuple(jobs))


def chain_book(names):
    """Each job needs the one behind it."""
    return book(*[job(name, names[k + 1:k + 2]) for k, name in enumerate(names)])


def random_command(chance, names, deep):
    """A command that asks for results of these names alone."""
    pick = chance.randrange(10)
    if deep == 0 or pick < 2:
        leaves = [("value", chance.choice(VALUES)), ("attempt",)]
        leaves += [("result", name) for name in names]
        return chance.choice(leaves)
    if pick == 2:
        return ("not", random_command(chance, names, deep - 1))
    if pick == 3:
        return ("if", *[random_command(chance, names, deep - 1) for _ in range(3)])
    return (chance.choice(TWO_PARTS), *[random_command(chance, names, deep - 1) for _ in range(2)])


def random_name(chance):
    return "".join(chance.choice("abcdefghijklmnopqrstuvwxyz") for _ in range(chance.randint(1, 8)))


def random_book(chance, many, thick=40, deep=3):
    """A right book of so many jobs; thick tells how many of a hundred needs there are."""
    names = sorted({random_name(chance) for _ in range(many)})
    order = names[:]
    chance.shuffle(order)
    things = (("pen", 3), ("saw", 1))
    jobs = {}
    for k, name in enumerate(order):
        needs = sorted(other for other in order[:k] if chance.randrange(100) < thick)[:12]
        uses = [(thing, chance.randint(1, units)) for thing, units in things if chance.randrange(3) == 0]
        jobs[name] = job(name, needs, random_command(chance, needs, deep), chance.choice(("all", "ended")), uses,
                         chance.randint(1, 20), chance.randint(1, 5), chance.randint(0, 1000),
                         chance.randint(-100, 100))
    return book(*[jobs[name] for name in names], things=things)


def random_web(chance, many, thick=40):
    """A right book whose commands matter to nobody, with short names."""
    names = "abcdefghijklmnopqrstuvwxyz"[:many]
    order = list(names)
    chance.shuffle(order)
    needs = {name: sorted(o for o in order[:k] if chance.randrange(100) < thick) for k, name in enumerate(order)}
    return book(*[job(name, needs[name]) for name in names])
