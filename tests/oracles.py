"""Slow, plain ways to the same answers, made from the document's words alone."""

import itertools


class Fails(Exception):
    """A part has failed."""


def naive_worth(command, results, attempt, looked=None):
    """What an attempt comes to, by plain recursion; looked takes the names that were looked at."""
    try:
        return ("done", _worth(command, dict(results), attempt, [] if looked is None else looked))
    except Fails:
        return ("failed",)


def _order(value):
    return (0, 0) if value is None else (1, value) if isinstance(value, int) else (2, value)


def _true(value):
    return isinstance(value, int) and value != 0


def _worth(command, results, attempt, looked):
    word = command[0]
    if word == "value":
        return command[1]
    if word == "attempt":
        return attempt
    if word == "result":
        looked.append(command[1])
        return results[command[1]] if command[1] in results else None
    e = _worth(command[1], results, attempt, looked)
    if word == "if":
        return _worth(command[2] if _true(e) else command[3], results, attempt, looked)
    if word == "demand":
        if not _true(e):
            raise Fails()
        return _worth(command[2], results, attempt, looked)
    if word == "not":
        return 0 if _true(e) else 1
    f = _worth(command[2], results, attempt, looked)
    numbers = isinstance(e, int) and isinstance(f, int)
    texts = isinstance(e, str) and isinstance(f, str)
    return {
        "plus": lambda: e + f if numbers else None,
        "less": lambda: e - f if numbers else None,
        "times": lambda: e * f if numbers else None,
        "joined": lambda: (e + f)[:24] if texts else None,
        "is": lambda: 1 if _order(e) == _order(f) else 0,
        "below": lambda: 1 if _order(e) < _order(f) else 0,
        "and": lambda: 1 if _true(e) and _true(f) else 0,
        "or": lambda: 1 if _true(e) or _true(f) else 0,
    }[word]()


def inner(command):
    return [] if command[0] in ("value", "result", "attempt") else list(command[1:])


def parts(command):
    return [command] + [part for each in inner(command) for part in parts(each)]


def foldings(command):
    """All commands that come by one folding, of whatever part."""
    found = []
    words = [part[0] for part in parts(command)]
    if command[0] != "value" and not {"result", "attempt", "demand"} & set(words):
        found.append(("value", naive_worth(command, (), 1)[1]))
    if command[0] == "if" and command[1][0] == "value":
        found.append(command[2] if _true(command[1][1]) else command[3])
    if command[0] == "demand" and command[1][0] == "value" and _true(command[1][1]):
        found.append(command[2])
    for k, part in enumerate(inner(command)):
        for other in foldings(part):
            found.append(command[:k + 1] + (other,) + command[k + 2:])
    return found


def folded_by_chance(command, chance):
    """Folds any part that can be folded, as often as it goes."""
    while True:
        found = foldings(command)
        if not found:
            return command
        command = chance.choice(found)


# A grammar of the language, without empty rules. Strings of more than one sign, in rules,
# are names of rules; ("sign", ..) is any one of these signs.
LETTER = ("sign", "abcdefghijklmnopqrstuvwxyz")
DIGIT = ("sign", "0123456789")
PLAIN = ("sign", "abcdefghijklmnopqrstuvwxyzABCDEFGHIJKLMNOPQRSTUVWXYZ0123456789 -_")


def _spelled(word):
    return [("sign", sign) for sign in word]


def _runs(rules, name, sign, most):
    """Rules for one to so many of these signs: name1, name2, .."""
    rules[name + "1"] = [[sign]]
    for many in range(2, most + 1):
        rules[name + str(many)] = [[sign], [sign, name + str(many - 1)]]


def grammar():
    rules = {}
    _runs(rules, "name", LETTER, 8)
    _runs(rules, "digits", DIGIT, 8)
    _runs(rules, "text", PLAIN, 24)
    above = [("sign", "123456789")]
    rules["above"] = [above, above + ["digits8"]]
    rules["number"] = [_spelled("0"), ["above"]]
    rules["signed"] = [["number"], _spelled("-") + ["above"]]
    rules["command"] = [
        _spelled('""'), _spelled('"') + ["text24"] + _spelled('"'), ["signed"], _spelled("@") + ["name8"],
        _spelled("#"), _spelled("()"), _spelled("!") + ["command"],
        _spelled("(") + ["command"] + _spelled(" ? ") + ["command"] + _spelled(" : ") + ["command"] + _spelled(")"),
    ] + [_spelled("(") + ["command"] + _spelled(f" {sign} ") + ["command"] + _spelled(")") for sign in "+-*=<&|~;"]
    rules["names"] = [["name8"], ["names"] + _spelled(", ") + ["name8"]]
    rules["pair"] = [["name8"] + _spelled(" ") + ["number"]]
    rules["pairs"] = [["pair"], ["pairs"] + _spelled(", ") + ["pair"]]
    rules["needs"] = [_spelled("-"), ["names"]]
    rules["things"] = [_spelled("-"), ["pairs"]]
    rules["mode"] = [_spelled("all"), _spelled("ended")]
    rules["job"] = [
        _spelled("job ") + ["name8"] + _spelled(" ") + ["mode"] + _spelled(" needs ") + ["needs"]
        + _spelled(" uses ") + ["things"] + _spelled(" length ") + ["number"] + _spelled(" tries ") + ["number"]
        + _spelled(" start ") + ["number"] + _spelled(" urgency ") + ["signed"] + _spelled(" does ") + ["command"]]
    rules["book"] = [_spelled("things ") + ["things"], ["book"] + _spelled("\n") + ["job"]]
    _script_rules(rules)
    return {name: [tuple(rule) for rule in rules[name]] for name in rules}


def _script_rules(rules):
    """Events and scripts, but for the script without events, as no rule may be empty."""
    _runs(rules, "long", DIGIT, 399)
    above = [("sign", "123456789")]
    rules["great"] = [_spelled("0"), above, above + ["long399"]]
    rules["who"] = [_spelled("store"), _spelled("keeper"), _spelled("machine ") + ["great"]]
    rules["tearable"] = [_spelled("tick"), _spelled("hear ") + ["great"], _spelled("work ") + ["great"], _spelled("back ") + ["who"]]
    rules["event"] = [["tearable"], _spelled("keeper"), _spelled("again"), _spelled("lapse ") + ["name8"], _spelled("lose ") + ["great"],
                      _spelled("double ") + ["great"], _spelled("fall ") + ["who"], _spelled("torn ") + ["great"] + _spelled(" ") + ["tearable"]]
    rules["script"] = [["event"], ["script"] + _spelled("\n") + ["event"]]


RULES = grammar()


def told_by_grammar(rule, text):
    """(whether the text can be read, how many signs of it begin some text that can be)."""
    rows = [_closure([(rule, k, 0, 0) for k in range(len(RULES[rule]))], [], 0)]
    for place, sign in enumerate(text):
        moved = []
        for name, k, at, begun in rows[place]:
            body = RULES[name][k]
            if at < len(body) and isinstance(body[at], tuple) and sign in body[at][1]:
                moved.append((name, k, at + 1, begun))
        if not moved:
            return (False, place)
        rows.append(_closure(moved, rows, place + 1))
    done = any(name == rule and begun == 0 and at == len(RULES[name][k]) for name, k, at, begun in rows[-1])
    return (done, len(text))


def _closure(items, rows, place):
    found = dict.fromkeys(items)
    waiting = list(items)
    while waiting:
        name, k, at, begun = waiting.pop()
        body = RULES[name][k]
        further = []
        if at == len(body):
            # No rule is empty: what began here cannot have ended here.
            for other, j, stands, since in rows[begun]:
                rule = RULES[other][j]
                if stands < len(rule) and rule[stands] == name:
                    further.append((other, j, stands + 1, since))
        elif isinstance(body[at], str):
            further = [(body[at], j, 0, place) for j in range(len(RULES[body[at]]))]
        for item in further:
            if item not in found:
                found[item] = None
                waiting.append(item)
    return list(found)


def naive_hangs(needs, name):
    """All names that a name hangs on, needs a dict from names to needs."""
    found = set()
    for _ in needs:
        for at in [name, *found]:
            found |= set(needs[at])
    return found


def naive_widest(needs):
    """How many names at most do not hang on one another: all choices are tried."""
    below = {name: naive_hangs(needs, name) for name in needs}
    for many in range(len(needs), 0, -1):
        for chosen in itertools.combinations(sorted(needs), many):
            if not any(other in below[name] for name in chosen for other in chosen):
                return many
    return 0


def naive_outcomes(book):
    """The outcomes of all jobs, by plain recursion over needs."""
    jobs = {each[0]: each for each in book[1]}
    known = {}

    def outcome(name):
        if name not in known:
            known[name] = _naive_outcome(jobs[name], outcome)
        return known[name]

    return {name: outcome(name) for name in jobs}


def _naive_outcome(job, outcome):
    not_done = [need for need in job[2] if outcome(need)[0] != "done"]
    if job[1] == "all" and not_done:
        return ("barred", min(not_done))
    results = [(need, outcome(need)[2] if outcome(need)[0] == "done" else None) for need in job[2]]
    for attempt in range(1, job[6] + 1):
        answer = naive_worth(job[3], results, attempt)
        if answer[0] == "done":
            return ("done", attempt, answer[1])
    return ("failed", job[6])
