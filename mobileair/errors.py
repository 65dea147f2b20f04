"""The errors that the program raises."""


class MobileError(ValueError):
    """The base class of all errors that the program raises."""


class BadBits(MobileError):
    """A row of bits has a length that does not fit."""


class BadNumber(MobileError):
    """Digits, an area or their octets do not fit their written form."""


class BadText(MobileError):
    """A text, its septets or its parts do not fit their written form."""


class NoSuch(MobileError):
    """There is no such thing with this number."""

    def __init__(self, what, number):
        self.what = what
        self.number = number


class NotNow(MobileError):
    """What is asked for is not possible in the present state."""

    def __init__(self, what):
        self.what = what


class OutOfRange(MobileError):
    """An argument is out of its range."""

    def __init__(self, what):
        self.what = what
