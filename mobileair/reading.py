"""Messages read from the octets as which they are written."""

from mobileair.errors import BadNumber
from mobileair.identities import read_number, read_subscriber
from mobileair.messages import CODES, FIELDS, WISHES, write_message

# The greatest number that may stand in each place of a message that holds one.
GREATEST = {"area": 3, "cell": 3, "channel": 5, "cause": 127, "left": 11}
# The most octets of a word and of a part, and the most digits of a number.
LONGEST = {"word": 40, "part": 150}
MOST_DIGITS = 9
# How many octets an area has; the last one is the area itself.
AREA_SIZE = 5


def read_message(octets):
    """Return the message that is written as these octets, or None if they are no message."""
    message = _likely_message(octets)
    # Writing the message again finds whatever in the octets is not of it.
    if message is None or write_message(message) != octets:
        return None
    return message


def _likely_message(octets):
    """Return the only message as which the octets may be written, or None."""
    for name in CODES:
        if CODES[name] == octets[:2]:
            return _with_fields(name, octets[2:])
    return None


def _with_fields(name, rest):
    """Return the message with this name whose places are read from the rest of the octets, or None."""
    message = (name,)
    for field in FIELDS[name]:
        value, size = _read_field(field, rest)
        if value is None:
            return None
        message = message + (value,)
        rest = rest[size:]
    return message


def _read_field(field, octets):
    """Return what the octets begin with, or None if it cannot be read, and how many octets it takes."""
    if field == "subscriber":
        return _subscriber(octets), len(octets)
    if field == "number":
        return _number(octets), len(octets)
    if field in LONGEST:
        return (octets if 1 <= len(octets) <= LONGEST[field] else None), len(octets)
    if field == "area":
        return _limited(field, octets[AREA_SIZE - 1:]), AREA_SIZE
    if len(octets) == 0:
        return None, 0
    if field == "counted":
        size = 1 + octets[0]
        return _number(octets[1:size]), size
    if field == "wish":
        return _wish(octets[0]), 1
    return _limited(field, octets), 1


def _subscriber(octets):
    """Return the subscriber digits that are written as these octets, or None."""
    try:
        return read_subscriber(octets)
    except BadNumber:
        return None


def _number(octets):
    """Return the digits of the number that is written as these octets, or None."""
    try:
        digits = read_number(octets)
    except BadNumber:
        return None
    return digits if len(digits) <= MOST_DIGITS else None


def _wish(octet):
    """Return what is asked for by this octet, or None."""
    for wish in WISHES:
        if WISHES[wish] == octet:
            return wish
    return None


def _limited(field, octets):
    """Return the first octet if it may stand in this place, otherwise None."""
    if len(octets) == 0 or octets[0] > GREATEST[field]:
        return None
    return octets[0]
