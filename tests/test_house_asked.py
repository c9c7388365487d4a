"""A house that is asked: points 6, 8 and 11."""

import unittest

from oathhall.house import House
from halls import HUGE, asked_house, leader_of, to_others


class GotAsk(unittest.TestCase):
    def test_not_against_it(self):
        house = House(2, 4, [])
        self.assertEqual(house.got((1, 2, 5, "ask")), [(2, 1, 5, "yes")])
        self.assertEqual(house.book, [("yes", 5)])

    def test_against_it(self):
        house = House(2, 4, [8, 5])
        self.assertEqual(house.got((1, 2, 5, "ask")), [(2, 1, 5, "no")])
        self.assertEqual(house.book, [("no", 5)])

    def test_against_others_alone(self):
        house = House(2, 4, [4, 6, 9])
        self.assertEqual(house.got((1, 2, 5, "ask")), [(2, 1, 5, "yes")])

    def test_again(self):
        for against, word in (([], "yes"), ([5], "no")):
            house = House(2, 4, against)
            for again in range(3):
                with self.subTest(word=word, again=again):
                    self.assertEqual(house.got((1, 2, 5, "ask")), [(2, 1, 5, word)])
                    self.assertEqual(house.book, [(word, 5)])

    def test_behind_bound(self):
        house = asked_house(2, 4, 5)
        house.got((1, 2, 5, "bound"))
        self.assertEqual(house.got((1, 2, 5, "ask")), [(2, 1, 5, "yes")])
        self.assertEqual(house.book, [("yes", 5), ("bound", 5)])

    def test_behind_off(self):
        house = asked_house(2, 4, 5)
        house.got((1, 2, 5, "off"))
        self.assertEqual(house.got((1, 2, 5, "ask")), [(2, 1, 5, "no")])
        self.assertEqual(house.book, [("yes", 5), ("off", 5)])

    def test_behind_off_without_a_vote(self):
        for against in ([], [5]):
            house = House(2, 4, against)
            house.got((1, 2, 5, "off"))
            self.assertEqual(house.got((1, 2, 5, "ask")), [(2, 1, 5, "no")])
            self.assertEqual(house.book, [("off", 5)])

    def test_behind_a_query_it_had_no_line_for(self):
        house = House(2, 4, [])
        house.got((3, 2, 5, "query"))
        self.assertEqual(house.got((1, 2, 5, "ask")), [(2, 1, 5, "no")])
        self.assertEqual(house.book, [("no", 5)])

    def test_several_bargains(self):
        house = House(2, 4, [1, HUGE])
        lead = leader_of(HUGE, 4)
        self.assertEqual(house.got((1, 2, 5, "ask")), [(2, 1, 5, "yes")])
        self.assertEqual(house.got((1, 2, 1, "ask")), [(2, 1, 1, "no")])
        self.assertEqual(house.got((lead, 2, HUGE, "ask")), [(2, lead, HUGE, "no")])
        self.assertEqual(house.got((0, 2, 0, "ask")), [(2, 0, 0, "yes")])
        self.assertEqual(house.book, [("yes", 5), ("no", 1), ("no", HUGE), ("yes", 0)])


class GotDecision(unittest.TestCase):
    def test_unsure(self):
        for word in ("bound", "off"):
            house = asked_house(2, 4, 5)
            self.assertEqual(house.got((1, 2, 5, word)), [])
            self.assertEqual(house.book, [("yes", 5), (word, 5)])

    def test_from_a_house_that_does_not_lead(self):
        for word in ("bound", "off"):
            house = asked_house(2, 4, 5)
            self.assertEqual(house.got((3, 2, 5, word)), [])
            self.assertEqual(house.book, [("yes", 5), (word, 5)])

    def test_no_line(self):
        house = House(2, 4, [])
        self.assertEqual(house.got((1, 2, 5, "off")), [])
        self.assertEqual(house.book, [("off", 5)])

    def test_no_line_and_against_it(self):
        house = House(2, 4, [5])
        self.assertEqual(house.got((1, 2, 5, "off")), [])
        self.assertEqual(house.book, [("off", 5)])

    def test_decided(self):
        for word in ("bound", "off"):
            house = asked_house(2, 4, 5)
            house.got((1, 2, 5, word))
            for giver in (0, 1, 3):
                self.assertEqual(house.got((giver, 2, 5, word)), [])
            self.assertEqual(house.book, [("yes", 5), (word, 5)])

    def test_the_first_decision_stands(self):
        for first, second in (("bound", "off"), ("off", "bound")):
            house = asked_house(2, 4, 5)
            house.got((1, 2, 5, first))
            self.assertEqual(house.got((1, 2, 5, second)), [])
            self.assertEqual(house.book, [("yes", 5), (first, 5)])

    def test_off_behind_its_own_no(self):
        house = asked_house(2, 4, 5, [5])
        self.assertEqual(house.got((1, 2, 5, "off")), [])
        self.assertEqual(house.book, [("no", 5)])

    def test_off_without_a_vote_again(self):
        house = House(2, 4, [])
        house.got((1, 2, 5, "off"))
        self.assertEqual(house.got((3, 2, 5, "off")), [])
        self.assertEqual(house.book, [("off", 5)])

    def test_other_bargains_stay(self):
        house = asked_house(2, 4, 5)
        house.got((1, 2, 9, "ask"))
        house.got((1, 2, 9, "bound"))
        self.assertEqual(house.book, [("yes", 5), ("yes", 9), ("bound", 9)])
        house.got((1, 2, 5, "off"))
        self.assertEqual(house.book, [("yes", 5), ("yes", 9), ("bound", 9), ("off", 5)])


class GotQuery(unittest.TestCase):
    def test_unsure(self):
        house = asked_house(2, 4, 5)
        self.assertEqual(house.got((3, 2, 5, "query")), [])
        self.assertEqual(house.book, [("yes", 5)])

    def test_decided(self):
        for word in ("bound", "off"):
            house = asked_house(2, 4, 5)
            house.got((1, 2, 5, word))
            self.assertEqual(house.got((3, 2, 5, "query")), [(2, 3, 5, word)])
            self.assertEqual(house.got((0, 2, 5, "query")), [(2, 0, 5, word)])
            self.assertEqual(house.book, [("yes", 5), (word, 5)])

    def test_its_own_no(self):
        house = asked_house(2, 4, 5, [5])
        self.assertEqual(house.got((3, 2, 5, "query")), [(2, 3, 5, "off")])
        self.assertEqual(house.book, [("no", 5)])

    def test_off_without_a_vote(self):
        house = House(2, 4, [])
        house.got((1, 2, 5, "off"))
        self.assertEqual(house.got((3, 2, 5, "query")), [(2, 3, 5, "off")])
        self.assertEqual(house.book, [("off", 5)])

    def test_no_line(self):
        for against in ([], [5]):
            house = House(2, 4, against)
            self.assertEqual(house.got((3, 2, 5, "query")), [(2, 3, 5, "off")])
            self.assertEqual(house.book, [("no", 5)])
            self.assertEqual(house.got((0, 2, 5, "query")), [(2, 0, 5, "off")])
            self.assertEqual(house.book, [("no", 5)])

    def test_no_line_of_this_bargain(self):
        house = asked_house(2, 4, 9)
        self.assertEqual(house.got((0, 2, HUGE, "query")), [(2, 0, HUGE, "off")])
        self.assertEqual(house.book, [("yes", 9), ("no", HUGE)])


class SendingQuery(unittest.TestCase):
    def test_unsure(self):
        house = asked_house(2, 4, 5)
        self.assertEqual(house.query(5), [(2, 0, 5, "query"), (2, 1, 5, "query"), (2, 3, 5, "query")])
        self.assertEqual(house.query(5), to_others(2, 4, 5, "query"))
        self.assertEqual(house.book, [("yes", 5)])

    def test_not_unsure(self):
        house = House(1, 4, [9])
        house.begin(5)
        house.got((0, 1, 4, "ask"))
        house.got((0, 1, 4, "bound"))
        house.got((0, 1, 8, "ask"))
        house.got((0, 1, 8, "off"))
        house.begin(9)
        before = list(house.book)
        for bargain in (5, 4, 8, 9, 12):
            self.assertEqual(house.query(bargain), [])
        self.assertEqual(house.book, before)

    def test_stopped(self):
        house = asked_house(2, 4, 5)
        house.stop()
        self.assertEqual(house.query(5), [])
        house.wake()
        self.assertEqual(house.query(5), to_others(2, 4, 5, "query"))


if __name__ == "__main__":
    unittest.main()
