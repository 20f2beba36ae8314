"""Integers and their digits, also more of them than Python turns into one another at once."""

DIGITS = "0123456789"

# How many digits are turned at once.
PIECE = 64


def digits_of(number):
    """Returns the digits of an integer from 0 on."""
    pieces = []
    while number >= 10 ** 64:
        number, low = divmod(number, 10 ** 64)
        pieces.append(str(low).zfill(PIECE))
    pieces.append(str(number))
    return "".join(pieces[::-1])


def signed_digits(number):
    """Returns the digits of an integer, - ahead of one below 0."""
    return "-" + digits_of(-number) if number < 0 else digits_of(number)


def number_of(digits):
    """Returns the integer from 0 on that has these digits."""
    first = len(digits) % PIECE
    number = int("0" + digits[:first])
    for at in range(first, len(digits), PIECE):
        number = number * 10 ** 64 + int(digits[at:at + PIECE])
    return number
