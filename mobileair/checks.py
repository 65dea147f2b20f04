"""The check of ranges that several modules share."""

from mobileair.errors import OutOfRange


def check_range(number, least, most, what):
    """Raise OutOfRange(what) unless the number is least to most."""
    if not least <= number <= most:
        raise OutOfRange(what)
