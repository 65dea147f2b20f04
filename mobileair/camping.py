"""Camping: on which cell a phone camps."""

from mobileair.limits import BETTER, CAMPING


def next_camp(signals, phone, camp):
    """Return the cell on which the phone camps next, or None."""
    best, level = signals.best(phone)
    if camp is None or not signals.hears(phone, camp):
        return best if level >= CAMPING else None
    return best if level >= signals.level(phone, camp) + BETTER else camp
