"""Access: when a phone may ask for a channel, and which of several phones is heard."""

from mobileair.limits import CAPTURE, MOST_PHONES


def may_ask(number, tries, tick):
    """Return True if the phone with this number and count of tries may ask in the tick, otherwise False."""
    return tries == 0 or tick % MOST_PHONES == number


def heard(asks):
    """Return the phone that is heard, of the pairs (phone, level) of one cell, or None."""
    for phone, level in asks:
        others = [loud for other, loud in asks if other != phone]
        if all([level >= loud + CAPTURE for loud in others]):
            return phone
    return None
