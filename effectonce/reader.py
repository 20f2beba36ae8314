"""Reads texts sign by sign, and tells where no text of the language goes on."""

from effectonce.digits import DIGITS, number_of
from effectonce.errors import BadText
from effectonce.values import LETTERS, LONGEST_NAME

DIGITS_BUT_NOUGHT = "123456789"


def is_plain(text):
    """Returns whether all its signs are some of those from the blank to ~."""
    return all(" " <= sign <= "~" for sign in text)


class Reader:
    """A text, and how much of it is read.

    What takes a sign raises BadText if another one stands there, or none: as each sign
    that was taken can be gone on from, the place is as far as the text could be right.
    """

    def __init__(self, text):
        self.text = text
        self.place = 0

    def sees(self, signs):
        """Returns whether one of these signs stands next; behind the end none does."""
        return self.place < len(self.text) and self.text[self.place] in signs

    def take_sign(self, signs):
        """Takes one of these signs, and returns it."""
        if not self.sees(signs):
            raise BadText(self.place)
        self.place += 1
        return self.text[self.place - 1]

    def take_word(self, word):
        """Takes just these signs, one behind another."""
        for sign in word:
            self.take_sign(sign)

    def take_one_of(self, words):
        """Takes one of these words, none of which is a beginning of another one, and returns it."""
        first = self.place
        left = words
        while left != [self.text[first:self.place]]:
            at = self.place - first
            sign = self.take_sign([word[at] for word in left])
            left = [word for word in left if word[at] == sign]
        return left[0]

    def take_run(self, signs, most):
        """Takes such signs as long as they go on, no more than most, and returns them."""
        first = self.place
        while self.place - first < most and self.sees(signs):
            self.place += 1
        return self.text[first:self.place]

    def take_plain(self, many):
        """Takes just so many signs, whichever from the blank to ~, and returns them."""
        text = self.text[self.place:self.place + many]
        for sign in text:
            if not is_plain(sign):
                raise BadText(self.place)
            self.place += 1
        if len(text) < many:
            raise BadText(self.place)
        return text

    def take_name(self):
        """Takes a name."""
        return self.take_sign(LETTERS) + self.take_run(LETTERS, LONGEST_NAME - 1)

    def take_number(self, most):
        """Takes an integer from 0 on, of at most so many digits, without needless noughts."""
        if self.sees("0"):
            return int(self.take_sign("0"))
        return self._take_above_nought(most)

    def take_signed(self, most):
        """Takes an integer of at most so many digits, - ahead of one below 0."""
        if not self.sees("-"):
            return self.take_number(most)
        self.take_sign("-")
        return -self._take_above_nought(most)

    def _take_above_nought(self, most):
        return number_of(self.take_sign(DIGITS_BUT_NOUGHT) + self.take_run(DIGITS, most - 1))

    def take_end(self):
        """Raises BadText if something stands behind what was read."""
        if self.place < len(self.text):
            raise BadText(self.place)
