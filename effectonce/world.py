"""Worlds: a store, a keeper, machines, their disks, and the letters in the air between them."""

from effectonce.air import doubled, taken_out
from effectonce.checker import judge_ends, judge_store, told_outcomes
from effectonce.disks import torn, written
from effectonce.errors import BadScript
from effectonce.events import EVENT_PARTS, TEARABLE
from effectonce.keeper import bars_now, grants_now, keeper_again, keeper_back, keeper_does, keeper_hears, keeper_lapses
from effectonce.letters import goes_to
from effectonce.machines import fresh_machine, machine_hears, machine_tells, machine_works, open_works
from effectonce.recovery import recovered_keeper, recovered_machine, recovered_store
from effectonce.store import new_store, still_open, store_hears, ticked
from effectonce.tables import with_fields
from effectonce.values import is_between, is_name, is_whole

STORE = ("store",)
KEEPER = ("keeper",)


def _all_who(machines):
    """Returns the list of all who are in a world: the store, the keeper, the machines."""
    return [STORE, KEEPER] + [("machine", m) for m in range(machines)]


def new_world(book, machines):
    """Returns the world at the beginning."""
    keeper, kept, letters = keeper_back(book, machines, 0)
    disks = {who: "" for who in _all_who(machines)}
    disks[KEEPER] = written("", kept)
    return {
        "book": book, "machines": machines, "store": new_store(book), "keeper": keeper,
        "hands": {m: fresh_machine(m) for m in range(machines)}, "disks": disks, "air": letters,
    }


def is_event(world, value):
    """Returns whether it is an event of this world."""
    if not isinstance(value, tuple) or len(value) != 3 or value[0] != "torn":
        return _is_whole_event(world, value)
    return _is_whole_event(world, value[1]) and value[1][0] in TEARABLE and _is_part(world, "number", value[2])


def _is_whole_event(world, value):
    """Returns whether it is an event of this world that is not torn."""
    if not isinstance(value, tuple) or not value or not isinstance(value[0], str) or value[0] not in EVENT_PARTS:
        return False
    sorts = EVENT_PARTS[value[0]]
    return len(value) == 1 + len(sorts) and all(_is_part(world, sort, value[k + 1]) for k, sort in enumerate(sorts))


def _is_part(world, sort, value):
    if sort == "job":
        return is_name(value)
    if sort == "number":
        return is_whole(value) and value >= 0
    return _is_machine(world, value) if sort == "machine" else _is_who(world, value)


def _is_machine(world, value):
    return is_between(value, 0, world["machines"] - 1)


def _is_who(world, value):
    if not isinstance(value, tuple):
        return False
    if len(value) == 2:
        return value[0] == "machine" and _is_machine(world, value[1])
    return value in (STORE, KEEPER)


def after(world, event):
    """Returns the world behind an event; raises BadScript(0) if it is none of this world."""
    if not is_event(world, event):
        raise BadScript(0)
    return _behind(world, event)


def _behind(world, event):
    word = event[0]
    if word == "again":
        return with_fields(world, {"air": world["air"] + _letters_again(world)})
    if word == "lose":
        return with_fields(world, {"air": taken_out(world["air"], event[1])[1]})
    if word == "double":
        return with_fields(world, {"air": doubled(world["air"], event[1])})
    if word == "fall":
        return _with_one(world, event[1], None)
    if word == "torn":
        return _acted(world, event[1], event[2])
    return _acted(world, event, None)


def _one(world, who):
    """Returns the store, the keeper or the machine, None while it is down."""
    return world["hands"][who[1]] if who[0] == "machine" else world[who[0]]


def _with_one(world, who, one):
    if who[0] == "machine":
        return with_fields(world, {"hands": with_fields(world["hands"], {who[1]: one})})
    return with_fields(world, {who[0]: one})


def _letters_again(world):
    letters = () if world["keeper"] is None else keeper_again(world["keeper"])
    for m in range(world["machines"]):
        if world["hands"][m] is not None:
            letters = letters + machine_tells(world["hands"][m], world["book"])[1]
    return letters


def _acted(world, event, keep):
    """Returns the world behind an event in which one acts.

    keep is None, or how many signs are written until the one who acts falls.
    """
    letter = None
    if event[0] == "hear":
        letter, air = taken_out(world["air"], event[1])
        world = with_fields(world, {"air": air})
        if letter is None:
            return world
    who = _who_acts(event, letter)
    # Only one who is down comes back, and only one who is up does anything else.
    if (_one(world, who) is None) != (event[0] == "back"):
        return dict(world)
    one, letters, kept = _act(world, who, event, letter)
    disk = world["disks"][who]
    if keep is not None:
        one, letters = None, ()
        disk = torn(disk, kept, keep) if kept else disk
    elif kept:
        disk = written(disk, kept)
    world = _with_one(world, who, one)
    return with_fields(world, {"disks": with_fields(world["disks"], {who: disk}), "air": world["air"] + letters})


def _who_acts(event, letter):
    if event[0] == "hear":
        return goes_to(letter)
    if event[0] == "back":
        return event[1]
    if event[0] == "work":
        return ("machine", event[1])
    return STORE if event[0] == "tick" else KEEPER


def _act(world, who, event, letter):
    """Returns the one who acts behind it, the letters that go out, and the records to be written first."""
    book, one = world["book"], _one(world, who)
    if event[0] == "tick":
        return (ticked(one), (), (("tick",),))
    if event[0] == "work":
        return machine_works(one, book)
    if event[0] == "keeper":
        return (*keeper_does(one), ())
    if event[0] == "lapse":
        return (*keeper_lapses(one, event[1]), ())
    return _hear(one, who, book, letter) if event[0] == "hear" else _come_back(world, who)


def _hear(one, who, book, letter):
    if who == STORE:
        now, answers = store_hears(one, letter)
        return (now, answers, () if now["moment"] == one["moment"] else ((one["time"], letter),))
    return (*keeper_hears(one, letter), ()) if who == KEEPER else machine_hears(one, book, letter)


def _come_back(world, who):
    book, disk = world["book"], world["disks"][who]
    if who == STORE:
        return (recovered_store(book, disk), (), ())
    if who == KEEPER:
        keeper, kept, letters = keeper_back(book, world["machines"], recovered_keeper(disk))
        return (keeper, letters, kept)
    return (recovered_machine(who[1], disk), (), ())


def played(world, script):
    """Returns the world behind all events of a script; raises BadScript(number) for the first that is none of it."""
    for number, event in enumerate(script):
        if not is_event(world, event):
            raise BadScript(number)
    world = dict(world)
    for event in script:
        world = _behind(world, event)
    return world


def who_is_down(world):
    """Returns the list of all who are down."""
    return [who for who in _all_who(world["machines"]) if _one(world, who) is None]


def store_of(world):
    """Returns the store of a world, the one that would come back while it is down."""
    return _store_that_would_come_back(world) if world["store"] is None else world["store"]


def _store_that_would_come_back(world):
    return recovered_store(world["book"], world["disks"][STORE])


def outcomes_now(world):
    """Returns the ascending tuple of the pairs of each job that has ended and its outcome."""
    return told_outcomes(store_of(world))


def calm(world):
    """Returns the world in which nothing more is to be done, as nothing is lost and nobody falls, and the events."""
    many = 0
    event = _next_of_calm(world)
    while event is not None:
        world = _behind(world, event)
        many += 1
        event = _next_of_calm(world)
    return (dict(world), many)


def _next_of_calm(world):
    """Returns the event with which a calm run goes on, None where it ends."""
    down = who_is_down(world)
    if down:
        return ("back", down[0])
    if world["air"]:
        return ("hear", 0)
    for m in range(world["machines"]):
        if open_works(world["hands"][m], world["book"]):
            return ("work", m)
    keeper, store = world["keeper"], world["store"]
    is_idle = keeper["phase"] == "run" and keeper["open"] == ()
    if is_idle and _has_to_act(keeper, store):
        return ("keeper",)
    if not is_idle or keeper["holds"] or any(world["hands"][m]["works"] for m in range(world["machines"])):
        return ("again",)
    return ("tick",) if still_open(store) else None


def _has_to_act(keeper, store):
    """Returns whether the keeper would grant or bar something, or doesn't know how far the store is."""
    if keeper["moment"] != store["moment"] or keeper["time"] != store["time"]:
        return True
    return bool(grants_now(keeper) or bars_now(keeper))


def left_over(world):
    """Returns the ascending tuple of the names of the jobs that have not ended."""
    return still_open(store_of(world))


def judge_world(world):
    """Returns None if each effect came once, and as the book means it, else the first fault."""
    if world["store"] is not None and world["store"] != _store_that_would_come_back(world):
        return ("disk",)
    store = store_of(world)
    otherwise = judge_ends(store)
    if otherwise is not None:
        return ("outcome", otherwise[1])
    fault = judge_store(store)
    return None if fault is None else ("store", fault)
