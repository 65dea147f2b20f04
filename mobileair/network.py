"""The network as a whole: its phones, its cells, and its commands and questions."""

from mobileair.air import Air
from mobileair.checks import are_digits, check_number, check_range
from mobileair.errors import NotNow, OutOfRange
from mobileair.exchange import Exchange
from mobileair.home import KINDS
from mobileair.limits import MOST_AREAS, MOST_CELLS, MOST_CHANNELS, MOST_OUTBOX, MOST_PHONES
from mobileair.parts import cut
from mobileair.phone import Phone
from mobileair.signals import Signals
from mobileair.steps import Steps

WAYS = ("up", "down")
# The least and the most of what a command is told.
LEAST_SUBSCRIBER = 6
MOST_SUBSCRIBER = 15
MOST_NUMBER = 9
MOST_WORD = 40
MOST_LOST = 100
MOST_FLIPS = 3
MOST_PLACE = 455
MOST_TICKS = 400
# The marks of texts count modulo this.
MARKS = 256


class Network:
    """A mobile telephone network."""

    def __init__(self, sizes, areas):
        if not 1 <= len(sizes) <= MOST_CELLS or len(areas) != len(sizes):
            raise OutOfRange("cells")
        for size in sizes:
            check_range(size, 1, MOST_CHANNELS, "sizes")
        for area in areas:
            check_range(area, 0, MOST_AREAS - 1, "areas")
        self._cell_areas = list(areas)
        self._phones = []
        self._ticks = 0
        self._signals = Signals(MOST_PHONES, len(sizes))
        self._air = Air(self._signals)
        self._exchange = Exchange(sizes)
        self._steps = Steps(self._phones, self._cell_areas, self._signals, self._air, self._exchange)

    def add_phone(self, digits, number):
        """Add a phone with its subscriber digits and its number; return the number of the phone."""
        if len(self._phones) >= MOST_PHONES or self._ticks > 0:
            raise NotNow("phone")
        if not are_digits(digits, LEAST_SUBSCRIBER, MOST_SUBSCRIBER):
            raise OutOfRange("digits")
        _check_called(number)
        person = self._exchange.home.add(digits, number)
        self._phones.append(Phone(digits))
        return person

    def power(self, phone, on):
        """Switch a phone on or off; return whether it was on."""
        own = self._phone(phone)
        before = own.powered
        if on:
            own.powered = True
        elif before:
            own.switch_off()
        return before

    def set_level(self, phone, cell, level):
        """Set the level of a phone in a cell; return what it was."""
        self._phone(phone)
        return self._signals.set_level(phone, cell, level)

    def lose(self, phone, way, blocks):
        """Let the next blocks of a phone in a way be lost, so many of them."""
        self._check_way(phone, way)
        check_range(blocks, 0, MOST_LOST, "blocks")
        self._air.lose(phone, way, blocks)

    def harm(self, phone, way, places):
        """Let the bits at these places of the next block of a phone in a way be flipped."""
        self._check_way(phone, way)
        if len(places) > MOST_FLIPS or len(set(places)) < len(places):
            raise OutOfRange("places")
        for place in places:
            check_range(place, 0, MOST_PLACE, "places")
        self._air.harm(phone, way, places)

    def dial(self, phone, number):
        """Let a phone call a number."""
        own = self._phone(phone)
        _check_called(number)
        if not own.powered or own.link is not None or own.paged:
            raise NotNow("dial")
        own.side.dial(number)
        own.dialled = True

    def answer(self, phone):
        """Let a phone answer the call that it is offered."""
        own = self._phone(phone)
        own.give(own.side.answer())

    def hang(self, phone):
        """Let a phone hang up."""
        own = self._phone(phone)
        message = own.side.hang(not own.dialled)
        own.dialled = False
        if message is not None:
            own.give(message)

    def say(self, phone, octets):
        """Let a phone say a word."""
        own = self._phone(phone)
        if not 1 <= len(octets) <= MOST_WORD:
            raise OutOfRange("word")
        for octet in octets:
            check_range(octet, 0, 255, "word")
        own.give(own.side.say(octets))

    def text(self, phone, number, text):
        """Let a phone send a text to a number; return how many parts it has."""
        own = self._phone(phone)
        _check_called(number)
        if not own.powered:
            raise NotNow("text")
        parts = cut(text, own.told % MARKS)
        if len(own.outgoing) + len(parts) > MOST_OUTBOX:
            raise NotNow("room")
        own.outgoing.extend([(number, part) for part in parts])
        own.told += 1
        return len(parts)

    def set_forward(self, person, kind, number):
        """Set the number to which calls are forwarded for a kind, or None; return what it was."""
        self._check_person(person)
        if kind not in KINDS:
            raise OutOfRange("kind")
        if number is not None:
            _check_called(number)
        return self._exchange.home.set_forward(person, kind, number)

    def tick(self, count=1):
        """Do so many ticks; return the count of all ticks done."""
        check_range(count, 1, MOST_TICKS, "count")
        for _ in range(count):
            self._steps.tick(self._ticks)
            self._ticks += 1
        return self._ticks

    @property
    def ticks(self):
        """How many ticks were done."""
        return self._ticks

    def is_on(self, phone):
        """Return True if the phone is on, otherwise False."""
        return self._phone(phone).powered

    def camp(self, phone):
        """Return the cell on which the phone camps, or None."""
        return self._phone(phone).cell

    def channel(self, phone):
        """Return the pair (cell, channel) to which the phone keeps, or None."""
        link = self._phone(phone).link
        return None if link is None else link.place

    def known_area(self, phone):
        """Return the area that the phone knows, or None."""
        return self._phone(phone).known

    def wants(self, phone):
        """Return the list of what the phone wants, in order: page, area, call, texts."""
        return self._phone(phone).wishes(self._cell_areas)

    def call_state(self, phone):
        """Return the state of the phone's call side."""
        return self._phone(phone).side.state

    def call_cause(self, phone):
        """Return the cause of the phone's call side."""
        return self._phone(phone).side.cause

    def words_said(self, phone):
        """Return the tuple of the words that were said at the phone."""
        return self._phone(phone).side.said

    def words_heard(self, phone):
        """Return the tuple of the words that were heard at the phone."""
        return self._phone(phone).side.heard

    def outbox(self, phone):
        """Return how many pairs the outbox of the phone holds."""
        return len(self._phone(phone).outgoing)

    def texts(self, phone):
        """Return the list of the pairs (number, text) that the phone has read."""
        return list(self._phone(phone).read)

    def links(self):
        """Return the network links: phone, person, channel, second channel and whether it is released."""
        current = self._exchange.current
        return [(link.phone, link.person, link.place, link.second, link.released) for link in current]

    def channel_state(self, cell, channel):
        """Return free, held or rests, as things stand for the next tick."""
        return self._exchange.pool.status(cell, channel, self._ticks)

    def area(self, person):
        """Return the area of a person, or None."""
        self._check_person(person)
        return self._exchange.home.area(person)

    def page(self, person):
        """Return the reason of the page of a person, or None."""
        self._check_person(person)
        return self._exchange.pages.reason(person)

    def stored(self, person):
        """Return how many parts are stored for a person."""
        self._check_person(person)
        return self._exchange.store.many(person)

    def calls(self):
        """Return the list of the calls, the oldest first, as tuples (caller, called, state)."""
        return self._exchange.switch.calls()

    def lines(self):
        """Return the list of the lines of the book."""
        return self._exchange.switch.book.lines()

    def units(self, person):
        """Return the units of a person."""
        self._check_person(person)
        return self._exchange.switch.book.units(person)

    def _phone(self, phone):
        """Return the phone with this number; raise NoSuch if there is none."""
        check_number(phone, len(self._phones), "phone")
        return self._phones[phone]

    def _check_person(self, person):
        """Raise NoSuch unless there is such a person."""
        check_number(person, len(self._phones), "person")

    def _check_way(self, phone, way):
        """Raise NoSuch unless there is such a phone, then OutOfRange unless there is such a way."""
        self._phone(phone)
        if way not in WAYS:
            raise OutOfRange("way")


def _check_called(number):
    """Raise OutOfRange unless the string is a number that may be called."""
    if not are_digits(number, 1, MOST_NUMBER):
        raise OutOfRange("number")
