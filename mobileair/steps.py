"""The eight steps of a tick, between the phones and the network's side."""

from mobileair.access import heard, may_ask
from mobileair.blocks import FILL, pack_frame, unpack_frame
from mobileair.camping import next_camp
from mobileair.limits import PHONE_LOSS
from mobileair.phone import PhoneLink


class Steps:
    """What happens in a tick."""

    def __init__(self, phones, cell_areas, signals, air, exchange):
        # The network's own list of phones, to which it adds before the first tick.
        self._phones = phones
        self._cell_areas = cell_areas
        self._signals = signals
        self._air = air
        self._exchange = exchange

    def tick(self, tick):
        """Do the tick with this number."""
        self._camp()
        self._access(tick)
        self._up(tick)
        self._down(tick)
        self._page(tick)
        self._exchange.hand_over(self._signals, tick)
        self._lose(tick)
        self._exchange.step_calls(tick)

    def _camp(self):
        """Let the phones without a link camp."""
        for index, phone in enumerate(self._phones):
            if phone.powered and phone.link is None:
                phone.cell = next_camp(self._signals, index, phone.cell)
                phone.rest = max(0, phone.rest - 1)

    def _access(self, tick):
        """Let the phones ask for channels, and give links to those that are heard."""
        asking = [index for index, phone in enumerate(self._phones) if self._asks(index, phone, tick)]
        winners = [self._winner(cell, asking) for cell in range(len(self._cell_areas))]
        for index in asking:
            phone = self._phones[index]
            wish = phone.wishes(self._cell_areas)[0]
            channel = self._exchange.pool.free(phone.cell, tick)
            if winners[phone.cell] == index and channel is not None:
                self._begin(index, wish, (phone.cell, channel), tick)
            else:
                phone.ask_in_vain(wish)

    def _asks(self, index, phone, tick):
        """Return True if the phone asks for a channel, otherwise False."""
        if phone.cell is None or not phone.wishes(self._cell_areas):
            return False
        return may_ask(index, phone.tries, tick)

    def _winner(self, cell, asking):
        """Return the phone that is heard in a cell, of those that ask, or None."""
        here = [index for index in asking if self._phones[index].cell == cell]
        return heard([(index, self._signals.level(index, cell)) for index in here])

    def _begin(self, index, wish, place, tick):
        """Begin a link of a phone on a free channel, for what it wants."""
        key = self._exchange.begin(index, place, tick)
        self._phones[index].begin(PhoneLink(key, wish, place, tick), self._cell_areas[place[0]])

    def _up(self, tick):
        """Let the phones with a link send."""
        for index, phone in enumerate(self._phones):
            link = phone.link
            if link is not None:
                cell, _ = link.place
                block = self._air.carry(index, "up", cell, _block(link.terminal.send()))
                if block is not None:
                    self._exchange.take(link.key, link.place, block, tick)
                if link.leaving:
                    phone.leave()

    def _down(self, tick):
        """Let the network links send, and end those that are released and have nothing to send."""
        for link in list(self._exchange.current):
            if link.released and link.terminal.idle:
                self._exchange.finish(link, False, tick)
            else:
                self._send_down(link, tick)

    def _send_down(self, link, tick):
        """Let a network link send; the phone takes the block if it keeps to the channel."""
        block = _block(link.terminal.send())
        phone = self._phones[link.phone]
        own = phone.link
        if own is None or own.key != link.key:
            return
        cell, _ = link.place
        arrived = self._air.carry(link.phone, "down", cell, block)
        if arrived is None or own.place != link.place:
            return
        own.last = tick
        frame = unpack_frame(arrived)
        if frame is not None:
            phone.take(frame)

    def _page(self, tick):
        """Send pages; the phones that hear them want to answer."""
        home = self._exchange.home
        areas = [home.area(person) for person in range(len(self._phones))]
        for person in self._exchange.send_pages(areas, tick):
            phone = self._phones[person]
            if phone.link is None and phone.cell is not None and phone.side.state == "idle":
                if self._cell_areas[phone.cell] == areas[person]:
                    phone.paged = True
                    phone.tries = 0

    def _lose(self, tick):
        """Let the phones lose the links that fail or bring nothing, and end the network's ones."""
        for phone in self._phones:
            link = phone.link
            if link is not None and (link.terminal.state == "failed" or tick - link.last >= PHONE_LOSS):
                phone.lose()
        self._exchange.finish_lost(tick)


def _block(frame):
    """Return the block of a frame, or the fill for no frame."""
    return FILL if frame is None else pack_frame(frame)
