"""Books, events and scripts for worlds, made by chance from a seed."""

from tests.samples import book
from tests.store_oracles import store_book

# Of a hundred events how many are of each word: calmer ones, rough ones, ones in which letters get lost.
MOODS = (
    {"tick": 8, "keeper": 14, "again": 6, "lapse": 2, "work": 20, "hear": 46, "lose": 1, "double": 2, "fall": 0, "back": 1, "torn": 0},
    {"tick": 8, "keeper": 12, "again": 7, "lapse": 4, "work": 14, "hear": 34, "lose": 2, "double": 3, "fall": 3, "back": 9, "torn": 4},
    {"tick": 5, "keeper": 13, "again": 9, "lapse": 7, "work": 13, "hear": 30, "lose": 8, "double": 12, "fall": 1, "back": 2, "torn": 0},
    {"tick": 6, "keeper": 10, "again": 8, "lapse": 3, "work": 12, "hear": 30, "lose": 2, "double": 4, "fall": 4, "back": 12, "torn": 9},
)
KEEPS = (0, 1, 9, 20, 30, 40, 60, 90, 10 ** 30)


def world_book(chance, many, starts=6, longest=3):
    """A right book for worlds: short jobs, tried a few times, that use a few things."""
    told = store_book(chance, many, starts)
    jobs = [job[:5] + (chance.randint(1, longest),) + job[6:8] + (chance.randint(-2, 2),) for job in told[1]]
    return book(*jobs, things=told[0])


def all_who(machines):
    return [("store",), ("keeper",)] + [("machine", m) for m in range(machines)]


def down_in(world):
    """Who is down, by the fields alone."""
    ups = {("store",): world["store"], ("keeper",): world["keeper"]}
    ups.update({("machine", m): hand for m, hand in world["hands"].items()})
    return [who for who, one in ups.items() if one is None]


def random_event(chance, world, mood=None):
    """Any event of the world; what may be torn is torn now and then."""
    mood = mood or MOODS[1]
    word = chance.choices(list(mood), weights=list(mood.values()))[0]
    if word == "torn":
        inner = chance.choice(("tick", "hear", "hear", "hear", "work", "work", "back"))
        return ("torn", event_of(chance, world, inner), chance.choice(KEEPS))
    return event_of(chance, world, word)


def event_of(chance, world, word):
    """Any event with this word."""
    if word in ("tick", "keeper", "again"):
        return (word,)
    if word == "lapse":
        holds = [] if world["keeper"] is None else [job for job, _ in world["keeper"]["holds"]]
        return (word, chance.choice(holds + ["none", chance.choice([job[0] for job in world["book"][1]] + ["x"])]))
    if word == "work":
        busy = [m for m, hand in world["hands"].items() if hand is not None and hand["works"]]
        return (word, chance.choice(busy * 4 + list(range(world["machines"]))))
    if word in ("hear", "lose", "double"):
        many = len(world["air"])
        return (word, chance.choice((0, 0, chance.randrange(many + 1), chance.randrange(3 * many + 2))))
    who = chance.choice(all_who(world["machines"]))
    down = down_in(world)
    if word == "back" and down and chance.randrange(6):
        who = chance.choice(down)
    return (word, who)
