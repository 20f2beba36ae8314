"""What [13.2] to [13.5] tell of a store, word by word and moment by moment; and stores in which something is exchanged."""

from tests.oracles import naive_worth


def jobs_of(store):
    return {each[0]: each for each in store["book"][1]}


def lot_of(store, name):
    return store["ends"].get(name, ())


def stands_done(store, name):
    return [end[0] for end in lot_of(store, name)][-1:] == ["done"]


def stands_ended(store, name):
    return stands_done(store, name) or len(lot_of(store, name)) >= jobs_of(store)[name][6] or name in store["barred"]


def values_for(store, name):
    return tuple((need, lot_of(store, need)[-1][5] if stands_done(store, need) else None) for need in jobs_of(store)[name][2])


def all_holds(store):
    """(fence, job, first moment, last moment or None) of each hold."""
    found = [(end[1], name, end[2], end[4]) for name in store["ends"] for end in lot_of(store, name)]
    found += [(row[0], row[1], row[4], row[6]) for row in store["freed"]]
    return found + [(hold[0], name, hold[3], None) for name, hold in store["holds"].items()]


def attempts_of(store, name):
    """(fence, begun, since) of each attempt."""
    return [end[1:4] for end in lot_of(store, name)] + [(hold[0], hold[3], hold[4]) for job, hold in store["holds"].items() if job == name]


def is_twice(store, name):
    lot, told, hold = lot_of(store, name), jobs_of(store)[name], store["holds"].get(name)
    attempts = attempts_of(store, name)
    faults = [end[0] == "done" for end in lot[:-1]] + [len(lot) > told[6], name in store["barred"] and len(lot) > 0]
    faults += [attempts[k][0] <= attempts[k - 1][0] or attempts[k][1] < lot[k - 1][4] for k in range(1, len(attempts))]
    faults += [end[4] <= end[2] for end in lot]
    if hold is not None:
        faults += [stands_ended(store, name), hold[2] != len(lot) + 1]
    return any(faults)


def is_early(store, name):
    return any(since < jobs_of(store)[name][7] for _, _, since in attempts_of(store, name))


def lacks_needs(store, name):
    told = jobs_of(store)[name]
    for _, begun, _ in attempts_of(store, name):
        for need in told[2]:
            lot = lot_of(store, need)
            last = lot[-1][4] if lot else None
            was_done = last is not None and lot[-1][0] == "done" and last <= begun
            was_ended = was_done or (last is not None and len(lot) >= jobs_of(store)[need][6] and last <= begun) or need in store["barred"]
            if not (was_done if told[1] == "all" else was_ended):
                return True
    return False


def is_made_otherwise(store, name):
    for k, end in enumerate(lot_of(store, name)):
        due = naive_worth(jobs_of(store)[name][3], values_for(store, name), k + 1)
        if (end[0], end[5]) != (due + (None,))[:2]:
            return True
    return False


def is_barred_wrongly(store, name):
    told = jobs_of(store)[name]
    if name not in store["barred"]:
        return False
    lacking = [need for need in told[2] if not stands_done(store, need)] + [None]
    return told[1] != "all" or lacking[0] != store["barred"][name] or not stands_ended(store, lacking[0])


WORDS = (("twice", is_twice), ("early", is_early), ("needs", lacks_needs), ("made", is_made_otherwise), ("barred", is_barred_wrongly))


def naive_judge_store(store):
    fences = [hold[0] for hold in all_holds(store)]
    wrong = [fence for fence in fences if fences.count(fence) > 1 or not 1 <= fence <= store["fence"]]
    if wrong:
        return ("fence", min(wrong))
    for name in sorted(jobs_of(store)):
        for word, is_so in WORDS:
            if is_so(store, name):
                return (word, name)
    for thing, units in sorted(store["book"][0]):
        for moment in sorted(hold[2] for hold in all_holds(store)):
            there = [name for _, name, first, last in all_holds(store) if first <= moment and (last is None or moment < last)]
            if sum(dict(jobs_of(store)[name][4]).get(thing, 0) for name in there) > units:
                return ("units", thing, moment)
    return None


def naive_why(store, name):
    """[13.4], all that is so, in its order; the first one counts."""
    told, lot = jobs_of(store)[name], lot_of(store, name)
    lacking = [need for need in told[2] if not (stands_done(store, need) if told[1] == "all" else stands_ended(store, need))]
    held = [jobs_of(store)[other] for other in store["holds"]]
    free = {thing: units - sum(dict(other[4]).get(thing, 0) for other in held) for thing, units in store["book"][0]}
    short = tuple((thing, free[thing], units) for thing, units in told[4] if free[thing] < units)
    so = []
    if stands_done(store, name):
        so.append(("done", lot[-1][1], len(lot), lot[-1][5], values_for(store, name)))
    if len(lot) == told[6]:
        so.append(("failed", tuple(end[1] for end in lot)))
    if name in store["barred"]:
        names = [name]
        while names[-1] in store["barred"]:
            names.append(store["barred"][names[-1]])
        so.append(("barred", tuple(names)))
    if name in store["holds"]:
        so.append(("held",) + store["holds"][name][:3])
    if told[1] == "all" and not stands_ended(store, name):
        first = [need for need in told[2] if not stands_done(store, need)][:1]
        so += [("bar", need) for need in first if stands_ended(store, need)]
    so += [("needs", tuple(lacking))] * (lacking != []) + [("time", told[7])] * (told[7] > store["time"])
    so += [("units", short)] * (short != ()) + [("may",)]
    return so[0]


def exchanged_store(chance, store):
    """A store of the same form in which one thing is exchanged, left out or put to."""
    names = [each[0] for each in store["book"][1]]
    near = lambda number: number + chance.choice((-5, -1, -1, 1, 1, 5))
    field = chance.choice(("fence", "time", "moment", "holds", "holds", "ends", "ends", "ends", "ends", "barred", "barred", "freed"))
    if field in ("fence", "time", "moment"):
        return dict(store, **{field: near(store[field])})
    if field == "freed":
        last = max(0, store["moment"]) + 2
        row = (near(store["fence"]), chance.choice(names), 0, 1, chance.randrange(last), 0, chance.randrange(last))
        rows = [each for each in store["freed"] if chance.randrange(3)] + [row] * chance.randrange(2)
        return dict(store, freed=tuple(sorted(rows)))
    table, name = dict(store[field]), chance.choice(names)
    if field == "barred":
        table[name] = chance.choice(names)
        if chance.randrange(4) == 0:
            del table[name]
    elif field == "holds":
        name = chance.choice(sorted(table) or names)
        hold = list(table.get(name, (store["fence"] + 1, 0, len(lot_of(store, name)) + 1, store["moment"], store["time"])))
        at = chance.choice((0, 2, 3, 4))
        hold[at] = near(hold[at]) if name in table else hold[at]
        table[name] = tuple(hold)
    else:
        name = chance.choice(sorted(table) or names)
        lot = [list(end) for end in table.get(name, ())] or [["done", store["fence"] + 1, store["moment"], store["time"], store["moment"] + 1, 7]]
        end = chance.choice(lot)
        at = chance.randrange(7)
        if at == 0:
            end[0] = "done" if end[0] == "failed" else "failed"
            end[5] = None if end[0] == "failed" else end[5]
        elif at == 5:
            end[5] = chance.choice((None, 7, "x", 8))
        elif at == 6:
            lot.append(list(lot[-1][:1]) + [lot[-1][1] + chance.randrange(2), lot[-1][4], lot[-1][3], lot[-1][4] + 1, lot[-1][5]])
        else:
            end[at] = near(end[at])
        table[name] = tuple(tuple(each) for each in lot)
    return dict(store, **{field: table})
