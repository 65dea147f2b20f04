"""What always holds (points 144 to 148): networks with many commands and bad air, in all orders."""

import random
import unittest

from mobileair.errors import NotNow
from mobileair.limits import SETTLE
from tests.networks import NetworkTest, all_answers, built, number_of, settled, talking

KINDS = ("always", "busy", "unanswered", "unreachable")
LEVELS = (0, 4, 5, 9, 10, 15, 16, 20, 26, 30, 40, 63)


class Trial:
    """A network of some phones, and commands by chance within the bounds of point 146."""

    def __init__(self, seed, rough):
        self.chance = random.Random(seed)
        self.rough = rough
        cells = self.chance.randrange(1, 5)
        self.phones = self.chance.randrange(2, 9)
        rows = [[self.chance.choice(LEVELS) for _ in range(cells)] for _ in range(self.phones)]
        self.cells = cells
        self.network = built(rows, [self.chance.randrange(1, 7) for _ in range(cells)],
                             [self.chance.randrange(4) for _ in range(cells)])
        self.words = 0
        # The texts that were told, by the phone and the number.
        self.told = {}
        self.many = 0

    def command(self):
        """Give one command by chance."""
        commands = [self.dial, self.dial, self.answer, self.answer, self.answer, self.say, self.text, self.hang, self.move]
        if self.rough:
            commands += [self.lose, self.lose, self.harm, self.power, self.forward, self.move, self.move]
        try:
            self.chance.choice(commands)(self.chance.randrange(self.phones))
        except NotNow:
            pass

    def number(self):
        return number_of(self.chance.randrange(self.phones + 1))

    def dial(self, phone):
        self.network.dial(phone, self.number())

    def answer(self, phone):
        self.network.answer(phone)

    def hang(self, phone):
        if self.chance.random() < 0.1:
            self.network.hang(phone)

    def say(self, phone):
        if self.words < 39:
            octets = tuple(self.chance.randrange(256) for _ in range(self.chance.randrange(1, 41)))
            self.network.say(phone, octets)
            self.words += 1

    def text(self, phone):
        if self.many < 24:
            number, text = self.number(), "text " + str(self.many)
            self.network.text(phone, number, text)
            self.told.setdefault((phone, number), []).append(text)
            self.many += 1

    def move(self, phone):
        self.network.set_level(phone, self.chance.randrange(self.cells), self.chance.choice(LEVELS))

    def lose(self, phone):
        self.network.lose(phone, self.chance.choice(("up", "down")), self.chance.choice((1, 2, 3, 7, 8, 12, 40)))

    def harm(self, phone):
        places = self.chance.sample(range(456), self.chance.randrange(4))
        self.network.harm(phone, self.chance.choice(("up", "down")), places)

    def power(self, phone):
        self.network.power(phone, self.chance.random() < 0.8)

    def forward(self, phone):
        self.network.set_forward(phone, self.chance.choice(KINDS), self.chance.choice((None, None, self.number())))

    def clear_air(self):
        for phone in range(self.phones):
            for way in ("up", "down"):
                self.network.lose(phone, way, 0)


class AlwaysTest(NetworkTest):
    def assert_channels(self, trial):
        """Point 144."""
        network = trial.network
        held = [channel for link in network.links() for channel in link[2:4] if channel is not None]
        self.assertEqual(len(held), len(set(held)))
        kept = [network.channel(phone) for phone in range(trial.phones) if network.channel(phone) is not None]
        self.assertEqual(len(kept), len(set(kept)))
        for phone in range(trial.phones):
            channel = network.channel(phone)
            if channel is not None and network.channel_state(*channel) != "rests":
                # Of the phone's network links, the one that began with its link is the last one.
                own = [link for link in network.links() if link[0] == phone][-1]
                self.assertIn(channel, own[2:4])
        for channel in held:
            self.assertEqual(network.channel_state(*channel), "held")

    def assert_words(self, trial):
        """Point 145."""
        network = trial.network
        for caller, called, state in network.calls():
            states = [network.call_state(caller), network.call_state(called)]
            if [state, *states] == ["active"] * 3:
                for one, other in ((caller, called), (called, caller)):
                    said, heard = network.words_said(one), network.words_heard(other)
                    self.assertEqual(heard, said[:len(heard)])

    def assert_units(self, trial):
        """Point 148."""
        network = trial.network
        ended = [line for line in network.lines() if line[3] is not None]
        wanted = sum(1 + (line[3] - line[2]) // 10 for line in ended)
        self.assertEqual(sum(network.units(phone) for phone in range(trial.phones)), wanted)

    def assert_at_rest(self, trial):
        """Point 146."""
        network = trial.network
        talking = []
        for caller, called, state in network.calls():
            self.assert_talking(network, caller, called)
            self.assertEqual(state, "active")
            self.assertEqual(network.words_said(caller), network.words_heard(called))
            self.assertEqual(network.words_said(called), network.words_heard(caller))
            talking += [caller, called]
        for phone in range(trial.phones):
            if phone not in talking and network.call_state(phone) != "idle":
                self.assertEqual(network.call_state(phone), "starting")
                self.assertIn("call", network.wants(phone))
                self.assertIsNone(network.camp(phone))

    def assert_texts(self, trial):
        """Point 147."""
        network = trial.network
        for phone in range(trial.phones):
            for sender in range(trial.phones):
                told = trial.told.get((sender, number_of(phone)), [])
                read = [text for number, text in network.texts(phone) if number == number_of(sender)]
                self.assertLessEqual(set(read), set(told))
                places = [told.index(text) for text in read]
                self.assertEqual(places, sorted(places))

    def run_trial(self, seed, rough):
        trial = Trial(seed, rough)
        for _ in range(trial.chance.randrange(50, 400)):
            for _ in range(trial.chance.randrange(3)):
                trial.command()
            trial.network.tick()
            self.assert_channels(trial)
            self.assert_words(trial)
            self.assert_units(trial)
        trial.clear_air()
        for _ in range(2 * SETTLE):
            trial.network.tick()
            self.assert_channels(trial)
            self.assert_words(trial)
            self.assert_units(trial)
        self.assert_at_rest(trial)
        self.assert_texts(trial)
        return trial

    def test_on_clear_air(self):
        lines = texts = calls = 0
        for seed in range(60):
            network = self.run_trial(seed, False).network
            lines += len(network.lines())
            calls += len(network.calls())
            texts += sum(len(network.texts(phone)) for phone in range(2))
        # The trials are worth something only if calls and texts come about in them.
        self.assertGreater(lines, 20)
        self.assertGreater(calls, 5)
        self.assertGreater(texts, 20)

    def test_on_bad_air(self):
        lines = texts = 0
        for seed in range(90):
            network = self.run_trial(1000 + seed, True).network
            lines += len(network.lines())
            texts += sum(len(network.texts(phone)) for phone in range(2))
        self.assertGreater(lines, 20)
        self.assertGreater(texts, 20)

    def test_the_same_commands_have_the_same_answers(self):
        rows = []
        for _ in range(2):
            trial = Trial(5, True)
            found = []
            for _ in range(150):
                trial.command()
                trial.network.tick()
                found.append(all_answers(trial.network, trial.phones))
            rows.append(found)
        self.assertEqual(rows[0], rows[1])

    def test_handovers_on_bad_air(self):
        for seed in range(40):
            chance = random.Random(seed)
            network = talking([[30, 20, 10], [10, 20, 30]], areas=[0, 0, 0])
            said = [[], []]
            moved = set()
            for step in range(160):
                if step % 12 == 0:
                    for phone in (0, 1):
                        levels = chance.sample((12, 20, 30), 3)
                        for cell in range(3):
                            network.set_level(phone, cell, levels[cell])
                for phone in (0, 1):
                    if step % 5 == phone and network.call_state(phone) == "active":
                        said[phone].append((step, phone) * chance.randrange(1, 20))
                        network.say(phone, said[phone][-1])
                    if chance.random() < 0.2:
                        network.lose(phone, chance.choice(("up", "down")), chance.choice((1, 1, 2, 3)))
                network.tick()
                moved.add(network.channel(0))
                for one, other in ((0, 1), (1, 0)):
                    heard = network.words_heard(other)
                    self.assertEqual(list(heard), said[one][:len(heard)])
            self.assertGreater(len(moved), 2)

    def test_a_call_for_which_there_is_no_cell(self):
        network = settled([[30], [30]])
        network.set_level(0, 0, 0)
        network.tick()
        network.dial(0, number_of(1))
        network.tick(400)
        network.tick(200)
        self.assertEqual([network.call_state(0), network.wants(0), network.camp(0)], ["starting", ["call"], None])

    def test_units_of_several_persons(self):
        network = settled([[30, 0, 0], [0, 30, 0], [0, 0, 30]])
        for caller, called, ticks in ((0, 1, 3), (1, 0, 40), (2, 0, 25), (0, 2, 9)):
            network.dial(caller, number_of(called))
            self.first_tick(network, lambda: network.call_state(called) == "ringing")
            network.answer(called)
            self.first_tick(network, lambda: (caller, called, "active") in network.calls())
            network.tick(ticks)
            network.hang(called)
            network.tick(30)
        spans = [line[3] - line[2] for line in network.lines()]
        self.assertEqual([line[:2] for line in network.lines()], [(0, 1), (1, 0), (2, 0), (0, 2)])
        self.assertEqual(spans, [4, 41, 26, 10])
        self.assertEqual([network.units(person) for person in range(3)], [1 + 2, 5, 3])


if __name__ == "__main__":
    unittest.main()
