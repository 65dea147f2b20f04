"""The parts of texts that are stored until the phones of their persons have taken them."""

from mobileair.limits import MOST_STORED


class Store:
    """The stored parts of all persons."""

    def __init__(self):
        # A list of pairs (number of the sender, part) for each person, by the person.
        self._parts = {}

    def has_room(self):
        """Return True if one more part may be stored, otherwise False."""
        return sum([len(pairs) for pairs in self._parts.values()]) < MOST_STORED

    def put(self, person, sender, part):
        """Store a part from the number of its sender, behind all others of the person."""
        self._parts.setdefault(person, []).append((sender, part))

    def first(self, person):
        """Return the first pair of the person, or None."""
        pairs = self._parts.get(person, [])
        return pairs[0] if pairs else None

    def drop_first(self, person):
        """Let the first pair of the person go, if there is one."""
        pairs = self._parts.get(person, [])
        if pairs:
            pairs.pop(0)

    def many(self, person):
        """Return how many parts are stored for the person."""
        return len(self._parts.get(person, []))
