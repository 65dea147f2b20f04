"""Where a call goes: the person who is called in the end, after all forwarding."""

from mobileair.limits import HOPS

# The causes for which there is no goal.
NOBODY = 1
BUSY = 17
UNREACHABLE = 20
TOO_FAR = 31


def find_goal(home, number, caller, busy, hops):
    """Return the goal of a number or None, the cause, and the count of forwardings in the end."""
    while True:
        person = home.with_number(number)
        if person is None:
            return None, NOBODY, hops
        kind, cause = _obstacle(home, person, caller, busy)
        if kind is None:
            return person, cause, hops
        number = home.forward(person, kind)
        if number is None:
            return None, cause, hops
        if hops >= HOPS:
            return None, TOO_FAR, hops
        hops = hops + 1


def _obstacle(home, person, caller, busy):
    """Return the kind by which calls to the person are forwarded, or None, and the cause."""
    if home.forward(person, "always") is not None:
        return "always", 0
    if person == caller or person in busy:
        return "busy", BUSY
    if home.area(person) is None:
        return "unreachable", UNREACHABLE
    return None, 0
