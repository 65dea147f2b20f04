"""The checks of ranges and of numbers that several modules share."""

from mobileair.errors import NoSuch, OutOfRange


def check_range(number, least, most, what):
    """Raise OutOfRange(what) unless the number is least to most."""
    if not least <= number <= most:
        raise OutOfRange(what)


def check_number(number, count, what):
    """Raise NoSuch(what, number) unless it is the number of one of so many, numbered from 0."""
    if not 0 <= number < count:
        raise NoSuch(what, number)
