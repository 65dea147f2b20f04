"""The switch: the network's side of all calls, and what is to be done at each event."""

from mobileair.book import Book
from mobileair.goals import TOO_FAR, find_goal
from mobileair.limits import HOPS, RING

# The causes that the switch itself gives.
CALLING_ALREADY = 17
NO_ANSWER_TO_PAGE = 18
NO_ANSWER = 19
LINK_LOST = 27


class Call:
    """A call that the switch keeps."""

    def __init__(self, caller, called, hops):
        self.caller = caller
        # None while the call is forwarded and nobody is found yet.
        self.called = called
        # The state: looking, offered, ringing, answered or active.
        self.stage = "looking"
        self.hops = hops
        # The tick in which the call was offered last.
        self.offered = None
        # The line of the book, of an active call.
        self.line = None


class Switch:
    """All calls of the network; each event returns the list of the actions that follow from it."""

    def __init__(self, home):
        self.book = Book()
        self._home = home
        self._calls = []

    def start(self, person, number, linked, tick):
        """A person asks for a call to a number."""
        if self._call(person) is not None:
            return _cleared(person, CALLING_ALREADY)
        goal, cause, hops = find_goal(self._home, number, person, self._busy(linked), 0)
        if goal is None:
            return _cleared(person, cause)
        self._calls.append(Call(person, goal, hops))
        return [("tell", person, ("proceeding",)), ("page", goal)]

    def answered(self, person, tick):
        """A person has answered a page for a call."""
        call = self._called_in(person, ("looking",))
        if call is None:
            return []
        number = self._home.number(call.caller)
        call.stage = "offered"
        call.offered = tick
        return [("tell", person, ("setup", number))]

    def alerting(self, person):
        """The phone of a person rings."""
        call = self._called_in(person, ("offered",))
        if call is None:
            return []
        call.stage = "ringing"
        return [("tell", call.caller, ("alerting",))]

    def connect(self, person):
        """A person answers the call."""
        call = self._called_in(person, ("offered", "ringing"))
        if call is None:
            return []
        call.stage = "answered"
        return [("tell", person, ("connect done",)), ("tell", call.caller, ("connect",))]

    def connected(self, person, tick):
        """The phone of the caller knows that the call was answered."""
        call = self._call(person)
        if call is not None and call.caller == person and call.stage == "answered":
            call.stage = "active"
            call.line = self.book.begin(call.caller, call.called, tick)
        return []

    def word(self, person, octets):
        """A person says a word."""
        call = self._call(person)
        if call is None or call.stage not in ("answered", "active"):
            return []
        return [("tell", _other_side(call, person), ("word", octets))]

    def disconnect(self, person, cause, tick):
        """A person ends the call, with a cause."""
        return [("release", person)] + self._leave(person, cause, tick)

    def lost(self, person, tick):
        """The network link of a person is lost."""
        return self._leave(person, LINK_LOST, tick)

    def failed(self, person, linked, tick):
        """A page for a call was in vain."""
        call = self._called_in(person, ("looking",))
        if call is None:
            return []
        return self._not_reached(call, "unreachable", NO_ANSWER_TO_PAGE, linked)

    def step(self, linked, tick):
        """Look after the calls that ring for too long, the oldest first."""
        actions = []
        for call in list(self._calls):
            if call.stage in ("offered", "ringing") and tick - call.offered >= RING:
                person = call.called
                actions.extend(self._not_reached(call, "unanswered", NO_ANSWER, linked))
                actions.extend(_cleared(person, NO_ANSWER))
        return actions

    def calls(self):
        """Return the list of the calls, the oldest first, as tuples (caller, called, state)."""
        return [_shown(call) for call in self._calls]

    def call_of(self, person):
        """Return the tuple of the call of which the person is a side, or None."""
        call = self._call(person)
        return None if call is None else _shown(call)

    def is_leg(self, person):
        """Return True if the person is a leg of a call, otherwise False."""
        call = self._call(person)
        return call is not None and _is_leg_of(call, person)

    def _call(self, person):
        """Return the call of which the person is a side, or None."""
        for call in self._calls:
            if person == call.caller or person == call.called:
                return call
        return None

    def _called_in(self, person, stages):
        """Return the call in one of these states of which the person is the called one, or None."""
        call = self._call(person)
        if call is None or call.called != person or call.stage not in stages:
            return None
        return call

    def _busy(self, linked):
        """Return the list of the busy persons: the sides of all calls, and those with a network link."""
        callers = [call.caller for call in self._calls]
        called = [call.called for call in self._calls if call.called is not None]
        return callers + called + list(linked)

    def _leave(self, person, cause, tick):
        """End the call of which the person is a leg, if there is one, and clear the other side."""
        call = self._call(person)
        if call is None or not _is_leg_of(call, person):
            return []
        self._calls.remove(call)
        if call.stage == "active":
            self.book.end(call.line, tick, cause)
        return _clear(call, _other_side(call, person), cause)

    def _not_reached(self, call, kind, cause, linked):
        """Forward a call whose called person is not reached, or end it if that is not possible."""
        number = self._home.forward(call.called, kind)
        if number is None:
            return self._give_up(call, cause)
        if call.hops >= HOPS:
            return self._give_up(call, TOO_FAR)
        call.called = None
        busy = self._busy(linked)
        goal, found, hops = find_goal(self._home, number, call.caller, busy, call.hops + 1)
        if goal is None:
            return self._give_up(call, found)
        call.called = goal
        call.stage = "looking"
        call.hops = hops
        return [("page", goal)]

    def _give_up(self, call, cause):
        """End a call whose called person is no side of it any more, and clear the caller."""
        self._calls.remove(call)
        return _clear(call, call.caller, cause)


def _shown(call):
    """Return the tuple as which a call is shown."""
    return (call.caller, call.called, call.stage)


def _is_leg_of(call, side):
    """Return True if this side of the call is a leg, otherwise False."""
    return side == call.caller or call.stage != "looking"


def _other_side(call, side):
    """Return the other side of the call."""
    return call.called if side == call.caller else call.caller


def _clear(call, side, cause):
    """Return the actions that clear a side of the call."""
    return _cleared(side, cause) if _is_leg_of(call, side) else [("unpage", side)]


def _cleared(person, cause):
    """Return the actions that end a call for a person who has a link for it."""
    return [("tell", person, ("disconnect", cause)), ("release", person)]
