"""got_all, and point 1: what is handed in is neither changed nor kept."""

import unittest

from oathhall.house import House, got_all
from halls import HUGE, opened_house, to_others


class GotAll(unittest.TestCase):
    def test_one_list_for_each_letter(self):
        house = opened_house(4, 3)
        letters = [(0, 1, 4, "yes"), (0, 1, 4, "yes"), (2, 1, 4, "yes"), (0, 1, 4, "query"), (2, 1, 4, "no")]
        sent = got_all(house, letters)
        self.assertEqual(sent, [[], [], to_others(1, 3, 4, "bound"), [(1, 0, 4, "bound")], []])
        self.assertEqual(house.book, [("open", 4), ("bound", 4)])

    def test_no_letters(self):
        house = opened_house(4, 3)
        self.assertEqual(got_all(house, []), [])
        self.assertEqual(house.book, [("open", 4)])

    def test_the_same_house_as_one_by_one(self):
        letters = [
            (1, 2, 5, "ask"), (0, 2, 9, "off"), (1, 2, 9, "ask"), (3, 2, 5, "query"), (1, 2, 1, "ask"),
            (1, 2, 5, "bound"), (3, 2, 5, "query"), (0, 2, 13, "query"), (1, 2, 13, "ask"), (1, 2, 5, "off"),
        ]
        at_once = House(2, 4, [1])
        one_by_one = House(2, 4, [1])
        self.assertEqual(got_all(at_once, letters), [one_by_one.got(letter) for letter in letters])
        self.assertEqual(at_once.book, one_by_one.book)
        self.assertEqual(at_once.awake, one_by_one.awake)

    def test_counted_yes_go_on(self):
        house = opened_house(3, 4)
        got_all(house, [(0, 3, 3, "yes"), (1, 3, 3, "yes")])
        self.assertEqual(got_all(house, [(2, 3, 3, "yes")]), [to_others(3, 4, 3, "bound")])


class HandedIn(unittest.TestCase):
    def test_against_is_as_it_was(self):
        against = [7, 3, 7, HUGE]
        house = House(1, 3, against)
        house.begin(7)
        house.got((0, 1, 3, "ask"))
        house.stop()
        house.wake()
        self.assertEqual(against, [7, 3, 7, HUGE])

    def test_against_changed_later(self):
        against = [7]
        house = House(1, 3, against)
        against.clear()
        against.append(4)
        self.assertEqual(house.begin(7), [])
        self.assertEqual(house.begin(4), to_others(1, 3, 4, "ask"))
        self.assertEqual(house.book, [("no", 7), ("open", 4)])

    def test_two_houses_with_one_against(self):
        against = [7]
        one = House(1, 3, against)
        two = House(1, 3, against)
        one.begin(7)
        self.assertEqual(two.book, [])
        two.begin(4)
        self.assertEqual(one.book, [("no", 7)])

    def test_letters_are_as_they_were(self):
        letters = [(1, 2, 5, "ask"), (1, 2, 5, "bound")]
        got_all(House(2, 4, []), letters)
        self.assertEqual(letters, [(1, 2, 5, "ask"), (1, 2, 5, "bound")])

    def test_letters_changed_later(self):
        letters = [(1, 2, 5, "ask")]
        house = House(2, 4, [])
        sent = got_all(house, letters)
        letters.clear()
        self.assertEqual(house.book, [("yes", 5)])
        self.assertEqual(sent, [[(2, 1, 5, "yes")]])

    def test_answers_changed_later(self):
        house = opened_house(5, 4)
        sent = house.got((0, 1, 5, "no"))
        sent.clear()
        house.got((0, 1, 5, "yes")).clear()
        self.assertEqual(house.got((0, 1, 5, "yes")), [(1, 0, 5, "off")])
        self.assertEqual(house.begin(9), to_others(1, 4, 9, "ask"))


if __name__ == "__main__":
    unittest.main()
