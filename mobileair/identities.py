"""Identities: subscribers, numbers and areas as octets, and the check digit.

Octets are written here as signs first, one for each half of an octet, the lower
half of each octet in front of its higher half.
"""

from mobileair.checks import are_digits
from mobileair.errors import BadNumber

# The signs of the halves 0 to 15; only the first ten of them are digits.
HALVES = "0123456789ABCDEF"
# The half that is written where a digit is missing.
MISSING = "F"
NUMBER_START = 129


def subscriber_octets(digits):
    """Return the tuple of the octets of 6 to 15 subscriber digits."""
    _check_digits(digits, 6, 15)
    return any_subscriber_octets(digits)


def any_subscriber_octets(digits):
    """Return the tuple of the octets of subscriber digits, however many they are."""
    odd = len(digits) % 2 == 1
    return _octets("9" + digits if odd else "1" + digits + MISSING)


def read_subscriber(octets):
    """Return the subscriber digits that are written as these octets."""
    digits = _signs(octets)[1:].removesuffix(MISSING)
    # Writing the digits again finds whatever is wrong, the digits themselves included.
    if subscriber_octets(digits) != octets:
        raise BadNumber()
    return digits


def number_octets(digits):
    """Return the tuple of the octets of the 1 to 18 digits of a number."""
    _check_digits(digits, 1, 18)
    return any_number_octets(digits)


def any_number_octets(digits):
    """Return the tuple of the octets of the digits of a number, however many they are."""
    odd = len(digits) % 2 == 1
    return (NUMBER_START,) + _octets(digits + MISSING if odd else digits)


def read_number(octets):
    """Return the digits of the number that is written as these octets."""
    digits = _signs(octets[1:]).removesuffix(MISSING)
    if number_octets(digits) != octets:
        raise BadNumber()
    return digits


def area_octets(country, net, place):
    """Return the tuple of the five octets of an area."""
    _check_digits(country, 3, 3)
    _check_digits(net, 2, 3)
    if not 0 <= place <= 65535:
        raise BadNumber()
    third = net[2] if len(net) == 3 else MISSING
    return _octets(country + third + net[:2]) + (place // 256, place % 256)


def read_area(octets):
    """Return the country, the net and the place of the area that is written as these octets."""
    if len(octets) != 5:
        raise BadNumber()
    signs = _signs(octets[:3])
    country = signs[:3]
    net = signs[4:] + signs[3].removesuffix(MISSING)
    place = 256 * octets[3] + octets[4]
    if area_octets(country, net, place) != octets:
        raise BadNumber()
    return country, net, place


def check_digit(digits):
    """Return the check digit of 1 to 18 digits."""
    _check_digits(digits, 1, 18)
    return str(-_check_sum(digits + "0") % 10)


def has_right_check(digits):
    """Return True if the last of 2 to 19 digits is the check digit of the others, otherwise False."""
    _check_digits(digits, 2, 19)
    return _check_sum(digits) % 10 == 0


def _check_sum(digits):
    """Return the sum of digits of which the last one is the check digit."""
    total = 0
    for at, digit in enumerate(digits[::-1]):
        worth = int(digit) * (1 + at % 2)
        total += worth - 9 if worth > 9 else worth
    return total


def _check_digits(digits, least, most):
    """Raise BadNumber unless the string consists of least to most digits."""
    if not are_digits(digits, least, most):
        raise BadNumber()


def _octets(signs):
    """Return the tuple of the octets whose halves the signs write."""
    halves = [HALVES.index(sign) for sign in signs]
    return tuple([low + 16 * high for low, high in zip(halves[::2], halves[1::2])])


def _signs(octets):
    """Return the signs of the halves of the octets."""
    return "".join([HALVES[octet & 15] + HALVES[(octet >> 4) & 15] for octet in octets])
