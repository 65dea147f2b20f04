"""The home register: the persons, their areas, and where their calls are forwarded."""

from mobileair.checks import check_number
from mobileair.errors import NotNow

# The kinds of forwarding.
KINDS = ("always", "busy", "unanswered", "unreachable")


class Home:
    """The persons, numbered from 0 in the order in which they are added."""

    def __init__(self):
        # What is known of each person, by its number.
        self._digits = []
        self._numbers = []
        self._areas = []
        # A dict for each person: the number to which calls are forwarded, or None, by the kind.
        self._forwards = []

    def add(self, digits, number):
        """Add a person; return its number among the persons."""
        if digits in self._digits:
            raise NotNow("digits")
        if number in self._numbers:
            raise NotNow("number")
        self._digits.append(digits)
        self._numbers.append(number)
        self._areas.append(None)
        self._forwards.append({kind: None for kind in KINDS})
        return len(self._digits) - 1

    def with_digits(self, digits):
        """Return the person with these subscriber digits, or None."""
        return self._digits.index(digits) if digits in self._digits else None

    def with_number(self, number):
        """Return the person with this number, or None."""
        return self._numbers.index(number) if number in self._numbers else None

    def digits(self, person):
        """Return the subscriber digits of a person."""
        self._check(person)
        return self._digits[person]

    def number(self, person):
        """Return the number of a person."""
        self._check(person)
        return self._numbers[person]

    def area(self, person):
        """Return the area of a person, or None."""
        self._check(person)
        return self._areas[person]

    def set_area(self, person, area):
        """Set the area of a person."""
        self._check(person)
        self._areas[person] = area

    def forward(self, person, kind):
        """Return the number to which calls to the person are forwarded for this kind, or None."""
        self._check(person)
        return self._forwards[person][kind]

    def set_forward(self, person, kind, number):
        """Set the number to which calls are forwarded for this kind, or None; return what it was."""
        before = self.forward(person, kind)
        self._forwards[person][kind] = number
        return before

    def _check(self, person):
        """Raise NoSuch unless there is such a person."""
        check_number(person, len(self._digits), "person")
