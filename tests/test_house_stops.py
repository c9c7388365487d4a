"""Stopping and coming up: points 9 and 10."""

import unittest

from oathhall.house import House
from halls import HUGE, asked_house, bound_leader, off_leader, opened_house, to_others


class Stopping(unittest.TestCase):
    def test_awake(self):
        house = House(0, 2, [])
        self.assertIs(house.awake, True)
        house.stop()
        self.assertIs(house.awake, False)
        house.wake()
        self.assertIs(house.awake, True)
        house.stop()
        self.assertIs(house.awake, False)

    def test_the_book_stays(self):
        house = asked_house(1, 3, 3)
        house.begin(4)
        house.got((0, 1, 6, "off"))
        before = list(house.book)
        house.stop()
        self.assertEqual(house.book, before)
        self.assertIsInstance(house.book, list)

    def test_coming_up_with_an_empty_book(self):
        house = House(0, 2, [])
        house.stop()
        self.assertEqual(house.wake(), [])
        self.assertEqual(house.book, [])

    def test_against_stays(self):
        house = House(1, 3, [4, 3])
        house.stop()
        house.wake()
        self.assertEqual(house.begin(4), [])
        self.assertEqual(house.got((0, 1, 3, "ask")), [(1, 0, 3, "no")])
        self.assertEqual(house.book, [("no", 4), ("no", 3)])


class ComingUp(unittest.TestCase):
    def wake_again(self, house):
        house.stop()
        return house.wake()

    def test_off_for_what_was_opened(self):
        house = opened_house(5, 4)
        self.assertEqual(self.wake_again(house), [(1, 0, 5, "off"), (1, 2, 5, "off"), (1, 3, 5, "off")])
        self.assertEqual(house.book, [("open", 5), ("off", 5)])

    def test_in_the_order_of_opening(self):
        house = House(0, 3, [15])
        for bargain in (9, 3, HUGE - HUGE % 3, 15, 6, 0, 12):
            house.begin(bargain)
        house.got((2, 0, 3, "no"))
        house.got((1, 0, 0, "yes"))
        house.got((2, 0, 0, "yes"))
        before = list(house.book)
        expected = (9, HUGE - HUGE % 3, 6, 12)
        sent = []
        for bargain in expected:
            sent = sent + to_others(0, 3, bargain, "off")
        self.assertEqual(self.wake_again(house), sent)
        self.assertEqual(house.book, before + [("off", bargain) for bargain in expected])

    def test_nothing_for_what_is_decided_or_not_opened(self):
        asked = asked_house(2, 4, 5)
        told = House(2, 4, [])
        told.got((1, 2, 5, "off"))
        against = House(1, 4, [5])
        against.begin(5)
        for house in (bound_leader(5, 4), off_leader(5, 4), asked, told, against):
            before = list(house.book)
            with self.subTest(book=before):
                self.assertEqual(self.wake_again(house), [])
                self.assertEqual(house.book, before)

    def test_a_second_time_nothing(self):
        house = opened_house(5, 4)
        self.wake_again(house)
        self.assertEqual(self.wake_again(house), [])
        self.assertEqual(house.book, [("open", 5), ("off", 5)])

    def test_counted_yes_are_forgotten(self):
        house = opened_house(4, 3)
        house.got((0, 1, 4, "yes"))
        self.wake_again(house)
        self.assertEqual(house.got((2, 1, 4, "yes")), [(1, 2, 4, "off")])
        self.assertEqual(house.got((0, 1, 4, "yes")), [(1, 0, 4, "off")])
        self.assertEqual(house.got((0, 1, 4, "no")), [])
        self.assertEqual(house.got((0, 1, 4, "query")), [(1, 0, 4, "off")])
        self.assertEqual(house.book, [("open", 4), ("off", 4)])

    def test_counting_begins_anew(self):
        house = House(1, 3, [])
        house.begin(4)
        house.got((0, 1, 4, "yes"))
        self.wake_again(house)
        house.begin(7)
        self.assertEqual(house.got((2, 1, 7, "yes")), [])
        self.assertEqual(house.got((0, 1, 7, "yes")), to_others(1, 3, 7, "bound"))

    def test_an_unsure_house_stays_unsure(self):
        house = asked_house(2, 4, 5)
        self.wake_again(house)
        self.assertEqual(house.got((3, 2, 5, "query")), [])
        self.assertEqual(house.got((1, 2, 5, "ask")), [(2, 1, 5, "yes")])
        house.got((1, 2, 5, "bound"))
        self.assertEqual(house.book, [("yes", 5), ("bound", 5)])

    def test_twenty_houses(self):
        house = House(19, 20, [])
        house.begin(39)
        house.begin(19)
        self.assertEqual(self.wake_again(house), to_others(19, 20, 39, "off") + to_others(19, 20, 19, "off"))


if __name__ == "__main__":
    unittest.main()
