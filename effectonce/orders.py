"""Books put in order: ranks, chains, lots, and books made of books."""

from effectonce.books import names_of_jobs
from effectonce.commands import with_leaves
from effectonce.errors import BadBook
from effectonce.matching import Matching
from effectonce.webs import hung_on, is_row_of, judge_book, needers_table, needs_table, reached


def ranks(book):
    """Returns the tuple of the pairs of each job's name and rank, ascending by names."""
    return tuple(sorted(_rank_table(book).items()))


def _rank_table(book):
    """Returns a dict from each name to the job's rank, its keys by rank, then by name."""
    table = {}
    left = needs_table(book[1])
    rank = 0
    while left:
        # What is left has a need that was left the time before: it ranks higher by one.
        ready = [name for name in left if all(need in table for need in left[name])]
        for name in ready:
            table[name] = rank
        left = {name: left[name] for name in left if name not in table}
        rank += 1
    return table


def in_order(book):
    """Returns the tuple of all names, by rank, then by name."""
    return tuple(_rank_table(book))


def judge_order(book, value):
    """Returns None if each name stands once, behind all that it needs, else the first fault."""
    if not _has_just(value, names_of_jobs(book)):
        return ("form",)
    needs = needs_table(book[1])
    ahead = {}
    for name in value:
        if not all(need in ahead for need in needs[name]):
            return ("early", name)
        ahead[name] = True
    return None


def _has_just(value, names):
    """Returns whether it is a tuple of these names, which ascend, each once."""
    if value == ():
        return names == ()
    return is_row_of(value, names) and tuple(sorted(value)) == names


def _below_table(book):
    """Returns a dict from each name to all on which the job hangs."""
    needs = needs_table(book[1])
    return {name: reached(needs, name) for name in needs}


def widest(book):
    """Returns how many jobs at most do not hang on one another, and such jobs."""
    names = Matching(_below_table(book)).uncovered()
    return (len(names), tuple(sorted(names)))


def narrowest(book):
    """Returns a list of chains, as few as can be, in which each job stands once."""
    # Each pair saves a chain, as its lower name goes on with the chain of its upper one.
    matching = Matching(_below_table(book))
    return [_chain_from(matching, name) for name in matching.below if name not in matching.upper_of]


def _chain_from(matching, name):
    chain = [name]
    while chain[-1] in matching.lower_of:
        chain.append(matching.lower_of[chain[-1]])
    return tuple(chain)


def judge_chains(book, value):
    """Returns None if it is a least list of chains of all jobs, else the first of its faults."""
    names = names_of_jobs(book)
    if not isinstance(value, (list, tuple)) or not all(is_row_of(chain, names) for chain in value):
        return ("form",)
    standing = sorted([name for chain in value for name in chain])
    for k in range(1, len(standing)):
        if standing[k] == standing[k - 1]:
            return ("twice", standing[k])
    for name in names:
        if name not in standing:
            return ("lacks", name)
    below = _below_table(book)
    for k, chain in enumerate(value):
        if not all(chain[at + 1] in below[chain[at]] for at in range(len(chain) - 1)):
            return ("chain", k)
    many = widest(book)[0]
    return None if len(value) == many else ("many", many)


def closed(book, names):
    """Returns the ascending tuple of these names, and of all that they hang on."""
    below = _below_table(book)
    return tuple(sorted({at for name in names for at in (name, *below[name])}))


def _of_names(book, names):
    return (book[0], tuple(job for job in book[1] if job[0] in names))


def only(book, names):
    """Returns the book of these jobs, and of all that they hang on."""
    return _of_names(book, closed(book, names))


def without(book, name):
    """Returns the book without this job, and without all that hang on it."""
    dropped = (name, *hung_on(book, name))
    return _of_names(book, [other for other in names_of_jobs(book) if other not in dropped])


def with_job(book, job):
    """Returns the book with this job, in the place of the one with its name, if there is one."""
    others = [other for other in book[1] if other[0] != job[0]]
    made = (book[0], tuple(sorted(others + [job], key=lambda each: each[0])))
    fault = judge_book(made)
    if fault is not None:
        raise BadBook(fault[0], fault[1])
    return made


def lots(book):
    """Returns the ascending tuple of the lots: of the names that needs join, directly or not."""
    needs, needers = needs_table(book[1]), needers_table(book[1])
    joined = {name: (name, *needs[name], *needers[name]) for name in needs}
    return tuple(sorted({reached(joined, name) for name in joined}))


def renamed(book, names):
    """Returns the book with other names for its jobs; names is a dict from all of the old ones."""
    others = {("result", name): ("result", names[name]) for name in names}
    jobs = [_renamed_job(job, names, others) for job in book[1]]
    return (book[0], tuple(sorted(jobs, key=lambda job: job[0])))


def _renamed_job(job, names, others):
    needs = tuple(sorted([names[need] for need in job[2]]))
    return (names[job[0]], job[1], needs, with_leaves(job[3], others), *job[4:])
