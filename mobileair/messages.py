"""The messages between a phone and the network, and the octets as which they are written."""

from mobileair.identities import any_number_octets, any_subscriber_octets

# What each message begins with.
CODES = {
    "area update": (5, 8),
    "area accept": (5, 2),
    "service": (5, 36),
    "service accept": (5, 33),
    "page answer": (6, 39),
    "release": (6, 13),
    "handover": (6, 43),
    "handover done": (6, 44),
    "setup": (3, 5),
    "proceeding": (3, 2),
    "alerting": (3, 1),
    "connect": (3, 7),
    "connect done": (3, 15),
    "disconnect": (3, 37),
    "word": (3, 60),
    "submit": (9, 1),
    "stored": (9, 4),
    "refused": (9, 16),
    "deliver": (9, 2),
    "taken": (9, 5),
}

# What stands in each message behind its name; a counted number has the count of its octets in front.
FIELDS = {
    "area update": ("area", "subscriber"),
    "area accept": ("area",),
    "service": ("wish", "subscriber"),
    "service accept": (),
    "page answer": ("subscriber",),
    "release": (),
    "handover": ("cell", "channel"),
    "handover done": (),
    "setup": ("number",),
    "proceeding": (),
    "alerting": (),
    "connect": (),
    "connect done": (),
    "disconnect": ("cause",),
    "word": ("word",),
    "submit": ("left", "counted", "part"),
    "stored": (),
    "refused": (),
    "deliver": ("counted", "part"),
    "taken": (),
}

# What a service is asked for, as an octet.
WISHES = {"call": 1, "texts": 4}

# The first area octets, those of country 001 and net 01; the area as the place follows.
AREA_FRONT = (0, 241, 16)


def write_message(message):
    """Return the tuple of the octets as which a message is written."""
    name, *values = message
    octets = CODES[name]
    for field, value in zip(FIELDS[name], values):
        octets = octets + _field_octets(field, value)
    return octets


def _field_octets(field, value):
    """Return the octets of what stands in one place of a message."""
    if field == "area":
        return AREA_FRONT + (value // 256, value % 256)
    if field == "subscriber":
        return any_subscriber_octets(value)
    if field == "number":
        return any_number_octets(value)
    if field == "counted":
        octets = any_number_octets(value)
        return (len(octets),) + octets
    if field == "wish":
        return (WISHES[value],)
    if field == "word" or field == "part":
        return value
    return (value,)
