"""The checks of ranges, of numbers and of digits that several modules share."""

from mobileair.errors import NoSuch, OutOfRange

DIGITS = "0123456789"


def are_digits(text, least, most):
    """Return True if the string consists of least to most digits, otherwise False."""
    return least <= len(text) <= most and all([sign in DIGITS for sign in text])


def check_range(number, least, most, what):
    """Raise OutOfRange(what) unless the number is least to most."""
    if not least <= number <= most:
        raise OutOfRange(what)


def check_number(number, count, what):
    """Raise NoSuch(what, number) unless it is the number of one of so many, numbered from 0."""
    if not 0 <= number < count:
        raise NoSuch(what, number)
