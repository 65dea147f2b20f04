"""Pages (points 86 to 89)."""

import random
import unittest

from mobileair.pages import Pages
from tests.helpers import ProgramTest


class PagesTest(ProgramTest):
    def asked(self, *persons):
        pages = Pages()
        for person in persons:
            self.assertIsNone(pages.ask(person, "call"))
        return pages

    def assert_page(self, pages, person, reason, sent):
        self.assertEqual((pages.reason(person), pages.sent(person)), (reason, sent))

    def test_no_pages(self):
        pages = Pages()
        self.assert_page(pages, 0, None, None)
        self.assertIsNone(pages.take(0))
        self.assertEqual(pages.step(0, []), ([], []))
        self.assertEqual(pages.step(0, [0, 1, None]), ([], []))

    def test_a_page(self):
        pages = Pages()
        self.assertIsNone(pages.ask(2, "texts"))
        self.assert_page(pages, 2, "texts", 0)
        self.assert_page(pages, 1, None, None)
        self.assertEqual(pages.step(7, [0, 0, 0]), ([], [2]))
        self.assert_page(pages, 2, "texts", 1)

    def test_take(self):
        pages = Pages()
        pages.ask(0, "call")
        pages.ask(1, "texts")
        self.assertIsNone(pages.take(2))
        self.assertEqual(pages.take(0), "call")
        self.assert_page(pages, 0, None, None)
        self.assertIsNone(pages.take(0))
        self.assert_page(pages, 1, "texts", 0)
        self.assertEqual(pages.take(1), "texts")
        self.assertEqual(pages.step(0, [0, 0, 0]), ([], []))

    def test_the_order_is_that_of_asking(self):
        for order in ([0, 1, 2, 3], [3, 1, 0, 2], [2, 3, 1, 0]):
            self.assertEqual(self.asked(*order).step(0, [0, 1, 2, 3]), ([], order))
            self.assertEqual(self.asked(*order).step(0, [0, 0, 0, 0]), ([], order[:2]))

    def test_asked_for_again(self):
        pages = self.asked(0, 1, 2)
        pages.ask(0, "texts")
        self.assert_page(pages, 0, "texts", 0)
        self.assertEqual(pages.step(0, [5, 5, 5]), ([], [1, 2]))
        self.assertEqual(pages.step(1, [5, 5, 5]), ([], [0]))

    def test_asked_for_again_counts_from_0(self):
        pages = self.asked(0)
        for tick in (0, 3, 6):
            self.assertEqual(pages.step(tick, [1]), ([], [0]))
        pages.ask(0, "texts")
        self.assert_page(pages, 0, "texts", 0)
        for tick in (7, 10, 13):
            self.assertEqual(pages.step(tick, [1]), ([], [0]))
        self.assertEqual(pages.step(15, [1]), ([], []))
        self.assertEqual(pages.step(16, [1]), ([(0, "texts")], []))

    def test_asked_for_anew_while_the_old_one_waits(self):
        pages = self.asked(0)
        self.assertEqual(pages.step(4, [1]), ([], [0]))
        pages.ask(0, "call")
        self.assert_page(pages, 0, "call", 0)
        self.assertEqual(pages.step(4, [1]), ([], [0]))
        self.assertEqual(pages.step(5, [1]), ([], []))
        pages.ask(0, "call")
        self.assertEqual(pages.step(5, [1]), ([], [0]))
        self.assert_page(pages, 0, "call", 1)

    def test_a_page_keeps_its_place_when_it_is_sent(self):
        pages = self.asked(0, 1)
        self.assertEqual(pages.step(0, [2, None]), ([], [0]))
        self.assertEqual(pages.step(3, [2, 2]), ([], [0, 1]))
        pages.ask(2, "call")
        self.assertEqual(pages.step(6, [2, 2, 2]), ([], [0, 1]))

    def test_the_ticks_of_sending(self):
        pages = self.asked(0)
        found = [pages.step(tick, [0]) for tick in range(10, 22)]
        nothing = ([], [])
        wanted = [([], [0]), nothing, nothing, ([], [0]), nothing, nothing, ([], [0]), nothing, nothing,
                  ([(0, "call")], []), nothing, nothing]
        self.assertEqual(found, wanted)
        self.assert_page(pages, 0, None, None)

    def test_waiting_by_the_numbers_of_the_ticks(self):
        pages = self.asked(0)
        self.assertEqual(pages.step(10, [0]), ([], [0]))
        self.assertEqual(pages.step(12, [0]), ([], []))
        self.assertEqual(pages.step(12, [0]), ([], []))
        self.assertEqual(pages.step(20, [0]), ([], [0]))
        self.assertEqual(pages.step(20, [0]), ([], []))
        self.assertEqual(pages.step(23, [0]), ([], [0]))
        self.assert_page(pages, 0, "call", 3)
        self.assertEqual(pages.step(25, [0]), ([], []))
        self.assert_page(pages, 0, "call", 3)
        self.assertEqual(pages.step(500, [0]), ([(0, "call")], []))

    def test_the_reasons_of_the_failed_ones_in_order(self):
        pages = Pages()
        for person, reason in ((3, "texts"), (0, "call"), (2, "call"), (1, "texts")):
            pages.ask(person, reason)
        for tick in (0, 3, 6):
            self.assertEqual(pages.step(tick, [0, 1, 0, 1]), ([], [3, 0, 2, 1]))
        failed = [(3, "texts"), (0, "call"), (2, "call"), (1, "texts")]
        self.assertEqual(pages.step(9, [0, 1, 0, 1]), (failed, []))
        self.assertEqual(pages.step(9, [0, 1, 0, 1]), ([], []))

    def test_two_of_each_area_in_a_step(self):
        pages = self.asked(0, 1, 2, 3, 4)
        self.assertEqual(pages.step(0, [7] * 5), ([], [0, 1]))
        self.assertEqual(pages.step(1, [7] * 5), ([], [2, 3]))
        self.assertEqual(pages.step(2, [7] * 5), ([], [4]))
        self.assertEqual(pages.step(3, [7] * 5), ([], [0, 1]))
        self.assertEqual(pages.step(4, [7] * 5), ([], [2, 3]))

    def test_the_others_in_the_next_step(self):
        pages = self.asked(0, 1, 2)
        self.assertEqual(pages.step(0, [1, 1, 1]), ([], [0, 1]))
        # The first two may be sent again, and they stand in front.
        self.assertEqual(pages.step(3, [1, 1, 1]), ([], [0, 1]))
        self.assert_page(pages, 2, "call", 0)
        self.assertEqual(pages.step(4, [1, 1, 1]), ([], [2]))

    def test_several_areas(self):
        pages = self.asked(5, 4, 3, 2, 1, 0)
        self.assertEqual(pages.step(0, [1, 0, 1, 0, 1, 0]), ([], [5, 4, 3, 2]))
        self.assertEqual(pages.step(1, [1, 0, 1, 0, 1, 0]), ([], [1, 0]))

    def test_persons_without_an_area(self):
        pages = self.asked(0, 1, 2, 3)
        self.assertEqual(pages.step(0, [None, 2, None, 2]), ([], [1, 3]))
        self.assert_page(pages, 0, "call", 0)
        self.assertEqual(pages.step(0, [None, 2, 2, 2]), ([], [2]))
        for tick in range(1, 40):
            pages.step(tick, [None, None, None, None])
        self.assert_page(pages, 0, "call", 0)
        self.assert_page(pages, 1, "call", 1)
        self.assertEqual(pages.step(40, [0, None, 0, 0]), ([], [0, 2]))

    def test_a_person_that_has_no_area_any_more_fails_all_the_same(self):
        pages = self.asked(0)
        for tick in (0, 3, 6):
            self.assertEqual(pages.step(tick, [2]), ([], [0]))
        self.assertEqual(pages.step(8, [None]), ([], []))
        self.assertEqual(pages.step(9, [None]), ([(0, "call")], []))

    def test_a_page_that_fails_takes_no_place(self):
        pages = self.asked(0, 1)
        for tick in (0, 3, 6):
            self.assertEqual(pages.step(tick, [4, 4, 4, 4]), ([], [0, 1]))
        pages.ask(2, "call")
        pages.ask(3, "call")
        self.assertEqual(pages.step(9, [4, 4, 4, 4]), ([(0, "call"), (1, "call")], [2, 3]))

    def test_a_page_that_waits_takes_no_place(self):
        pages = self.asked(0, 1)
        self.assertEqual(pages.step(0, [4] * 4), ([], [0, 1]))
        pages.ask(2, "call")
        pages.ask(3, "call")
        self.assertEqual(pages.step(1, [4] * 4), ([], [2, 3]))

    def test_a_page_after_a_failed_one(self):
        pages = self.asked(0)
        for tick in (0, 3, 6, 9):
            pages.step(tick, [4])
        pages.ask(0, "texts")
        self.assert_page(pages, 0, "texts", 0)
        self.assertEqual(pages.step(9, [4]), ([], [0]))

    def test_lists(self):
        pages = self.asked(0, 1)
        areas = [3, None]
        failed, sent = pages.step(0, areas)
        self.assertEqual(areas, [3, None])
        areas[1] = 3
        failed.append((9, "call"))
        sent.append(9)
        self.assertEqual(pages.step(1, [3, None]), ([], []))
        self.assert_page(pages, 9, None, None)
        self.assert_page(pages, 1, "call", 0)

    def test_against_a_plain_list(self):
        for seed in range(60):
            self.assert_like_by_hand(random.Random(seed))

    def assert_like_by_hand(self, chance):
        pages, rows, tick = Pages(), [], 0
        for _ in range(200):
            person = chance.randrange(6)
            if chance.random() < 0.2:
                reason = chance.choice(("call", "texts"))
                pages.ask(person, reason)
                rows = [row for row in rows if row[0] != person] + [[person, reason, 0, -9]]
            elif chance.random() < 0.1:
                reasons = [row[1] for row in rows if row[0] == person]
                rows = [row for row in rows if row[0] != person]
                self.assertEqual(pages.take(person), reasons[0] if reasons else None)
            else:
                tick += chance.choice((0, 1, 1, 2))
                areas = [chance.choice((None, 0, 1, 1)) for _ in range(6)]
                failed = [row for row in rows if row[2] == 3 and tick >= row[3] + 3]
                rows = [row for row in rows if row not in failed]
                ready = [row for row in rows if row[2] < 3 and tick >= row[3] + 3]
                chosen = []
                for area in (0, 1):
                    chosen += [row[0] for row in ready if areas[row[0]] == area][:2]
                sent = [row[0] for row in ready if row[0] in chosen]
                for row in rows:
                    if row[0] in sent:
                        row[2:] = [row[2] + 1, tick]
                self.assertEqual(pages.step(tick, areas), ([(row[0], row[1]) for row in failed], sent))
            for at in range(6):
                found = [(row[1], row[2]) for row in rows if row[0] == at]
                self.assert_page(pages, at, *(found[0] if found else (None, None)))


if __name__ == "__main__":
    unittest.main()
