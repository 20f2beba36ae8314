"""All errors of the program; each keeps copies of what it tells."""

from effectonce.copies import copied


class JobError(ValueError):
    """What all errors of the program are."""


class BadText(JobError):
    """A text that is not written in the language; place tells how far it could be."""

    def __init__(self, place):
        self.place = copied(place)


class BadBook(JobError):
    """A book that is not right: the number of a thing or job, and the word of its fault."""

    def __init__(self, number, word):
        self.number = copied(number)
        self.word = copied(word)


class BadScript(JobError):
    """A script with an event that is none of its world: the number of it."""

    def __init__(self, number):
        self.number = copied(number)


class BadDisk(JobError):
    """A disk on which no right records stand: the place of the first that is not."""

    def __init__(self, place):
        self.place = copied(place)


class NothingDone(JobError):
    """There is nothing to take back, or to do again."""


class TooMany(JobError):
    """A number for which a series has no name left."""


class NameTwice(JobError):
    """Two jobs with one name."""

    def __init__(self, name):
        self.name = copied(name)
