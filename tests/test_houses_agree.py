"""Houses with letters late, in any order, several times or not at all: points 1 to 11 at work."""

import random
import unittest

from oathhall.books import decision_in, is_sound, is_unsure, knows, vote_in
from oathhall.house import House


class Play:
    def __init__(self, seed):
        self.chance = random.Random(seed)
        self.count = self.chance.randrange(2, 6)
        self.bargains = range(self.chance.randrange(1, 7))
        self.against = [[b for b in self.bargains if self.chance.random() < 0.1] for n in range(self.count)]
        self.houses = [House(number, self.count, self.against[number]) for number in range(self.count)]
        self.letters = []

    def begin(self):
        bargain = self.chance.choice(self.bargains)
        house = self.houses[bargain % self.count]
        if house.awake and not knows(house.book, bargain):
            self.letters += house.begin(bargain)

    def carry(self, letter, lost=False):
        house = self.houses[letter[1]]
        if house.awake:
            sent = house.got(letter)
            if not lost:
                self.letters += sent
            else:
                house.stop()

    def carry_some(self):
        if self.letters:
            self.carry(self.chance.choice(self.letters), self.chance.random() < 0.05)

    def query(self):
        house = self.chance.choice(self.houses)
        self.letters += house.query(self.chance.choice(self.bargains))

    def stop_or_wake(self):
        house = self.chance.choice(self.houses)
        if house.awake:
            house.stop()
        else:
            self.letters += house.wake()

    def step(self):
        deeds = (self.begin, self.carry_some, self.query, self.stop_or_wake)
        self.chance.choices(deeds, (3, 12, 1, 1))[0]()

    def come_to_rest(self):
        for house in self.houses:
            if not house.awake:
                self.letters += house.wake()
        for bargain in self.bargains:
            for house in self.houses:
                self.letters += house.query(bargain)
        place = 0
        while place < len(self.letters):
            self.carry(self.letters[place])
            place += 1


class HousesAgree(unittest.TestCase):
    def check(self, play):
        for house in play.houses:
            self.assertTrue(is_sound(house.book))
        for bargain in play.bargains:
            decisions = [decision_in(house.book, bargain) for house in play.houses]
            self.assertFalse("bound" in decisions and "off" in decisions)
            if "bound" in decisions:
                votes = [vote_in(house.book, bargain) for house in play.houses]
                expected = ["open" if n == bargain % play.count else "yes" for n in range(play.count)]
                self.assertEqual(votes, expected)
                self.assertFalse(any(bargain in against for against in play.against))

    def test_never_decided_otherwise_and_decided_at_last(self):
        for seed in range(300):
            with self.subTest(seed=seed):
                play = Play(seed)
                for step in range(120):
                    before = [list(house.book) for house in play.houses]
                    play.step()
                    for house, book in zip(play.houses, before):
                        self.assertEqual(house.book[:len(book)], book)
                    self.check(play)
                play.come_to_rest()
                self.check(play)
                for house in play.houses:
                    for bargain in play.bargains:
                        self.assertFalse(is_unsure(house.book, bargain))
                        if knows(house.book, bargain):
                            self.assertIsNotNone(decision_in(house.book, bargain))

    def test_what_nobody_is_against_is_bound(self):
        for count in range(2, 21):
            bargain = 10 ** 99 + count
            houses = [House(number, count, [bargain + 1]) for number in range(count)]
            letters = houses[bargain % count].begin(bargain)
            place = 0
            while place < len(letters):
                letters += houses[letters[place][1]].got(letters[place])
                place += 1
            self.assertEqual([decision_in(house.book, bargain) for house in houses], ["bound"] * count)
            self.assertEqual(len(letters), 3 * (count - 1))


if __name__ == "__main__":
    unittest.main()
