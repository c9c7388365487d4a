"""A house that leads: points 5 to 8."""

import unittest

from oathhall.house import House
from halls import HUGE, bound_leader, leader_of, off_leader, opened_house, to_others


class Opening(unittest.TestCase):
    def test_a_new_house(self):
        house = House(2, 5, [1, 2])
        self.assertEqual(house.book, [])
        self.assertIs(house.awake, True)

    def test_not_against_it(self):
        house = House(1, 4, [])
        self.assertEqual(house.begin(5), [(1, 0, 5, "ask"), (1, 2, 5, "ask"), (1, 3, 5, "ask")])
        self.assertEqual(house.book, [("open", 5)])
        self.assertIs(house.awake, True)

    def test_against_it(self):
        house = House(1, 4, [9, 5])
        self.assertEqual(house.begin(5), [])
        self.assertEqual(house.book, [("no", 5)])

    def test_against_others_alone(self):
        house = House(1, 4, [4, 6, 9, HUGE])
        self.assertEqual(house.begin(5), to_others(1, 4, 5, "ask"))
        self.assertEqual(house.book, [("open", 5)])

    def test_several_in_one_book(self):
        house = House(0, 3, [6])
        house.begin(9)
        house.begin(6)
        house.begin(0)
        self.assertEqual(house.book, [("open", 9), ("no", 6), ("open", 0)])

    def test_every_count_and_number(self):
        for count in range(2, 21):
            for number in range(count):
                for bargain in (number, number + 3 * count, HUGE * count + number):
                    house = House(number, count, [])
                    self.assertEqual(house.begin(bargain), to_others(number, count, bargain, "ask"))
                    self.assertEqual(house.book, [("open", bargain)])


class CountingYes(unittest.TestCase):
    def test_bound_when_the_last_yes_is_there(self):
        house = opened_house(5, 4)
        self.assertEqual(house.got((3, 1, 5, "yes")), [])
        self.assertEqual(house.got((0, 1, 5, "yes")), [])
        self.assertEqual(house.book, [("open", 5)])
        self.assertEqual(house.got((2, 1, 5, "yes")), [(1, 0, 5, "bound"), (1, 2, 5, "bound"), (1, 3, 5, "bound")])
        self.assertEqual(house.book, [("open", 5), ("bound", 5)])

    def test_each_house_counts_once(self):
        house = opened_house(5, 4)
        for giver in (0, 0, 0, 2, 0, 2, 2):
            self.assertEqual(house.got((giver, 1, 5, "yes")), [])
        self.assertEqual(house.book, [("open", 5)])
        self.assertEqual(house.got((3, 1, 5, "yes")), to_others(1, 4, 5, "bound"))

    def test_bargains_are_counted_apart(self):
        house = House(0, 3, [])
        house.begin(3)
        house.begin(6)
        self.assertEqual(house.got((1, 0, 3, "yes")), [])
        self.assertEqual(house.got((2, 0, 6, "yes")), [])
        self.assertEqual(house.book, [("open", 3), ("open", 6)])
        self.assertEqual(house.got((1, 0, 6, "yes")), to_others(0, 3, 6, "bound"))
        self.assertEqual(house.got((2, 0, 3, "yes")), to_others(0, 3, 3, "bound"))
        self.assertEqual(house.book, [("open", 3), ("open", 6), ("bound", 6), ("bound", 3)])

    def test_houses_are_counted_apart(self):
        one = opened_house(3, 3)
        two = opened_house(3, 3)
        self.assertEqual(one.got((1, 0, 3, "yes")), [])
        self.assertEqual(two.got((2, 0, 3, "yes")), [])

    def test_two_houses_up_to_twenty(self):
        for count in range(2, 21):
            for bargain in (0, count - 1, HUGE):
                lead = leader_of(bargain, count)
                others = [other for other in range(count) if other != lead]
                house = opened_house(bargain, count)
                for giver in others[:-1]:
                    self.assertEqual(house.got((giver, lead, bargain, "yes")), [])
                self.assertEqual(house.book, [("open", bargain)])
                last = house.got((others[-1], lead, bargain, "yes"))
                self.assertEqual(last, to_others(lead, count, bargain, "bound"))
                self.assertEqual(house.book, [("open", bargain), ("bound", bargain)])


class FirstNo(unittest.TestCase):
    def test_first_no_is_off(self):
        house = opened_house(5, 4)
        self.assertEqual(house.got((2, 1, 5, "no")), [(1, 0, 5, "off"), (1, 2, 5, "off"), (1, 3, 5, "off")])
        self.assertEqual(house.book, [("open", 5), ("off", 5)])

    def test_no_behind_some_yes(self):
        house = opened_house(5, 4)
        house.got((0, 1, 5, "yes"))
        house.got((2, 1, 5, "yes"))
        self.assertEqual(house.got((3, 1, 5, "no")), to_others(1, 4, 5, "off"))
        self.assertEqual(house.book, [("open", 5), ("off", 5)])

    def test_no_from_a_house_that_was_counted(self):
        house = opened_house(5, 4)
        house.got((0, 1, 5, "yes"))
        self.assertEqual(house.got((0, 1, 5, "no")), to_others(1, 4, 5, "off"))

    def test_no_of_one_bargain_leaves_the_others(self):
        house = opened_house(5, 2)
        house.begin(7)
        house.got((0, 1, 5, "no"))
        self.assertEqual(house.got((0, 1, 7, "yes")), [(1, 0, 7, "bound")])
        self.assertEqual(house.book, [("open", 5), ("open", 7), ("off", 5), ("bound", 7)])

    def test_two_houses_up_to_twenty(self):
        for count in range(2, 21):
            lead = leader_of(HUGE, count)
            house = opened_house(HUGE, count)
            self.assertEqual(house.got(((lead + 1) % count, lead, HUGE, "no")), to_others(lead, count, HUGE, "off"))


class QueryAheadOfTheDecision(unittest.TestCase):
    def test_query_is_off_to_all_others(self):
        house = opened_house(5, 4)
        house.got((0, 1, 5, "yes"))
        self.assertEqual(house.got((2, 1, 5, "query")), [(1, 0, 5, "off"), (1, 2, 5, "off"), (1, 3, 5, "off")])
        self.assertEqual(house.book, [("open", 5), ("off", 5)])

    def test_yes_behind_it_gets_off(self):
        house = opened_house(4, 3)
        house.got((0, 1, 4, "yes"))
        house.got((0, 1, 4, "query"))
        self.assertEqual(house.got((2, 1, 4, "yes")), [(1, 2, 4, "off")])
        self.assertEqual(house.book, [("open", 4), ("off", 4)])


class BehindTheDecision(unittest.TestCase):
    def check(self, house, decided):
        before = list(house.book)
        for giver in (0, 2, 3):
            for again in range(2):
                with self.subTest(decided=decided, giver=giver, again=again):
                    self.assertEqual(house.got((giver, 1, 5, "yes")), [(1, giver, 5, decided)])
                    self.assertEqual(house.got((giver, 1, 5, "no")), [])
                    self.assertEqual(house.got((giver, 1, 5, "query")), [(1, giver, 5, decided)])
                    self.assertEqual(house.book, before)

    def test_bound(self):
        self.check(bound_leader(5, 4), "bound")

    def test_off(self):
        self.check(off_leader(5, 4), "off")

    def test_its_own_no(self):
        house = House(1, 4, [5])
        house.begin(5)
        self.check(house, "off")


if __name__ == "__main__":
    unittest.main()
