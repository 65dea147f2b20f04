"""Texts in the network (points 115, 126, 133, 134, 137, 138 and 142)."""

import unittest

from tests.networks import NetworkTest, built, digits_of, number_of, settle, settled, talk, talking

TWO = [[30, 0], [0, 30]]
THREE = [[30, 0, 0], [0, 30, 0], [0, 0, 30]]


class TextsTest(NetworkTest):
    def test_a_text(self):
        for text in ("", "a", "hello [world]\n@$_", "a" * 160):
            network = settled(TWO)
            self.assertEqual(network.text(0, number_of(1), text), 1)
            settle(network, 2)
            self.assertEqual([network.texts(1), network.texts(0)], [[(number_of(0), text)], []])
            self.assertEqual([network.outbox(0), network.stored(1), network.page(1)], [0, 0, None])

    def test_the_ticks_of_a_text(self):
        network = settled(TWO)
        network.text(0, number_of(1), "a")
        rows = []
        for _ in range(14):
            network.tick()
            rows.append((network.outbox(0), network.stored(1), len(network.texts(1)), len(network.links())))
        # Submitted and stored in tick 4, and told in the same tick; both are known in it. The page is answered in
        # tick 5, the part is sent in that tick, but the phone is up only in tick 6, and takes it in tick 8.
        self.assertEqual(rows, [(1, 0, 0, 1)] * 4 + [(0, 1, 0, 1), (0, 1, 0, 2), (0, 1, 0, 1), (0, 1, 0, 1), (0, 1, 1, 1),
                                                     (0, 0, 1, 1), (0, 0, 1, 0), (0, 0, 1, 0), (0, 0, 1, 0), (0, 0, 1, 0)])

    def test_texts_of_several_parts(self):
        for count, parts in ((161, 2), (306, 2), (307, 3), (459, 3), (460, 4), (612, 4)):
            network = settled(TWO)
            text = ("hello world! " * 60)[:count]
            self.assertEqual([network.text(0, number_of(1), text), network.outbox(0)], [parts, parts])
            settle(network, 2)
            self.assertEqual(network.texts(1), [(number_of(0), text)])

    def test_several_texts_to_several_numbers(self):
        network = settled(THREE)
        told = {1: [], 2: []}
        for at, called in enumerate((1, 2, 2, 1, 2)):
            text = "text " + str(at) * (1 + 90 * (at % 3))
            network.text(0, number_of(called), text)
            told[called].append((number_of(0), text))
        network.text(0, "99", "to nobody")
        settle(network, 3)
        self.assertEqual([network.texts(1), network.texts(2), network.outbox(0)], [told[1], told[2], 0])

    def test_texts_of_several_phones(self):
        network = settled(THREE)
        network.text(0, number_of(2), "a" * 300)
        network.text(1, number_of(2), "b" * 300)
        settle(network, 3)
        self.assertEqual(sorted(network.texts(2)), [(number_of(0), "a" * 300), (number_of(1), "b" * 300)])

    def test_to_oneself(self):
        network = settled([[30]])
        network.text(0, number_of(0), "hello")
        network.text(0, number_of(0), "a" * 200)
        settle(network, 1)
        self.assertEqual([network.texts(0), network.stored(0)], [[(number_of(0), "hello"), (number_of(0), "a" * 200)], 0])

    def test_to_nobody(self):
        network = settled([[30]])
        for _ in range(3):
            network.text(0, "99", "hello")
        settle(network, 1)
        self.assertEqual([network.texts(0), network.outbox(0), network.stored(0)], [[], 0, 0])

    def test_to_a_phone_that_is_off(self):
        network = settled(TWO)
        network.power(1, False)
        network.text(0, number_of(1), "one")
        network.text(0, number_of(1), "two")
        settle(network, 2)
        self.assertEqual([network.stored(1), network.outbox(0)], [2, 0])
        network.power(1, True)
        settle(network, 2)
        self.assertEqual([network.stored(1), network.texts(1)], [0, [(number_of(0), "one"), (number_of(0), "two")]])

    def test_one_link_for_sending_and_for_reading(self):
        network = settled(TWO)
        network.power(1, False)
        network.text(0, number_of(1), "one")
        settle(network, 2)
        network.power(1, True)
        network.tick()
        network.text(1, number_of(0), "back")
        settle(network, 2)
        self.assertEqual([network.texts(0), network.texts(1)], [[(number_of(1), "back")], [(number_of(0), "one")]])

    def test_what_is_stored_is_delivered_behind_sending(self):
        network = settled(TWO)
        talk(network, 0, 1)
        network.power(1, False)
        network.tick(20)
        network.text(0, number_of(1), "one")
        settle(network, 2)
        self.assertEqual(network.stored(1), 1)
        network.set_level(1, 1, 0)
        network.power(1, True)
        network.text(1, number_of(0), "back")
        network.set_level(1, 1, 30)
        settle(network, 2)
        self.assertEqual([network.texts(0), network.texts(1)], [[(number_of(1), "back")], [(number_of(0), "one")]])

    def test_while_the_other_phone_talks(self):
        network = talking(THREE)
        network.text(2, number_of(1), "later")
        network.tick(40)
        self.assertEqual([network.stored(1), network.page(1), network.texts(1)], [1, None, []])
        network.hang(0)
        settle(network, 3)
        self.assertEqual(network.texts(1), [(number_of(2), "later")])

    def test_a_text_of_a_phone_that_talks(self):
        network = talking(TWO)
        network.text(0, number_of(1), "later")
        network.tick(40)
        self.assertEqual([network.outbox(0), network.wants(0)], [1, []])
        network.hang(1)
        settle(network, 2)
        self.assertEqual([network.outbox(0), network.texts(1)], [0, [(number_of(0), "later")]])

    def test_a_text_that_is_told_while_others_are_sent(self):
        network = settled(TWO)
        network.text(0, number_of(1), "one")
        network.tick(4)
        network.text(0, number_of(1), "two")
        network.tick(2)
        self.assertEqual(network.outbox(0), 1)
        settle(network, 2)
        self.assertEqual(network.texts(1), [(number_of(0), "one"), (number_of(0), "two")])

    def test_40_stored_parts_then_refused(self):
        network = settled(THREE)
        network.power(1, False)
        network.power(2, False)
        for _ in range(3):
            for called in (1, 2, 1):
                self.assertEqual(network.text(0, number_of(called), "a" * 612), 4)
            settle(network, 3)
        self.assertEqual([network.stored(1), network.stored(2)], [24, 12])
        network.text(0, number_of(2), "b" * 459)
        network.text(0, number_of(1), "c" * 200)
        settle(network, 3)
        # The 40th part is the first one of the last text; the other one is refused.
        self.assertEqual([network.stored(1), network.stored(2), network.outbox(0)], [25, 15, 0])
        network.text(0, number_of(2), "refused")
        settle(network, 3)
        self.assertEqual([network.stored(1), network.stored(2)], [25, 15])
        network.power(2, True)
        settle(network, 3)
        self.assertEqual([network.stored(2), len(network.texts(2))], [0, 4])
        network.text(0, number_of(1), "stored again")
        settle(network, 3)
        self.assertEqual(network.stored(1), 26)
        network.power(1, True)
        settle(network, 3)
        self.assertEqual([network.stored(1), len(network.texts(1)), network.texts(1)[-1]],
                         [0, 7, (number_of(0), "stored again")])

    def test_lost_texts_are_sent_again(self):
        for way in ("up", "down"):
            for phone in (0, 1):
                for begin in range(1, 12):
                    network = settled(TWO)
                    network.text(0, number_of(1), "one")
                    network.text(0, number_of(1), "a" * 200)
                    network.tick(begin)
                    network.lose(phone, way, 25)
                    network.tick(200)
                    network.power(1, False)
                    network.power(1, True)
                    settle(network, 2)
                    network.text(0, number_of(1), "last")
                    settle(network, 2)
                    told = ["one", "a" * 200, "last"]
                    read = [text for _, text in network.texts(1)]
                    self.assertEqual([text for text in told if text in read], told, (way, phone, begin))
                    self.assertEqual(sorted(set(read)), sorted(told))

    def test_the_number_of_the_sender(self):
        network = built([[30, 0], [0, 30]])
        settle(network, 2)
        self.assertNotEqual(number_of(0), digits_of(0))
        network.text(1, number_of(0), "x")
        settle(network, 2)
        self.assertEqual(network.texts(0), [("11", "x")])

    def test_marks_tell_texts_apart(self):
        network = settled(TWO)
        for at in range(3):
            network.text(0, number_of(1), str(at) * 200)
        settle(network, 2)
        self.assertEqual([text for _, text in network.texts(1)], [str(at) * 200 for at in range(3)])

    def test_the_257th_text_has_the_mark_of_the_first_one(self):
        network = settled(TWO)
        for at in range(257):
            network.text(0, number_of(1), "ab"[at % 2] * 170)
            network.tick(60)
        self.assertEqual([text for _, text in network.texts(1)], ["ab"[at % 2] * 170 for at in range(257)])

    def test_texts_are_not_forwarded(self):
        network = settled(THREE)
        for kind in ("always", "busy", "unanswered", "unreachable"):
            network.set_forward(1, kind, number_of(2))
        network.text(0, number_of(1), "hello")
        settle(network, 3)
        self.assertEqual([network.texts(1), network.texts(2)], [[(number_of(0), "hello")], []])


if __name__ == "__main__":
    unittest.main()
