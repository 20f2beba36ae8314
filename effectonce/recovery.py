"""Coming back: what store, keeper and machines are by what stands on their disks."""

from effectonce.disks import is_record, words_on
from effectonce.errors import BadDisk
from effectonce.machines import machine_again
from effectonce.store import new_store, store_hears, ticked


def _all_on(who, disk):
    """Returns the list of the words on a disk; raises BadDisk(k) if number k is no record of this sort."""
    words = list(words_on(disk))
    for k, word in enumerate(words):
        if not is_record(who, word):
            raise BadDisk(k)
    return words


def recovered_store(book, disk):
    """Returns the store that comes back; raises BadDisk(k) for the first word that could not be written there."""
    store = new_store(book)
    # Each word is heard before the next one is looked at, as the least number tells the fault.
    for k, word in enumerate(words_on(disk)):
        if not is_record("store", word):
            raise BadDisk(k)
        if word == ("tick",):
            store = ticked(store)
        else:
            store = _heard_again(store, word, k)
    return store


def _heard_again(store, word, k):
    time, letter = word
    now = store_hears(store, letter)[0]
    if time != store["time"] or now["moment"] == store["moment"]:
        raise BadDisk(k)
    return now


def recovered_keeper(disk):
    """Returns the greatest epoch on a keeper's disk, 0 if there is none."""
    return max([word[1] for word in _all_on("keeper", disk)], default=0)


def recovered_machine(m, disk):
    """Returns the machine m that comes back."""
    return machine_again(m, _all_on("machine", disk))


def kept_letters(disk):
    """Returns the tuple of the letters of the records on a store's disk."""
    return tuple(word[1] for word in _all_on("store", disk) if word != ("tick",))
