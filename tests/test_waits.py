"""Point 16: for whom a house that is unsure must wait."""

import unittest

from halls import HUGE, begun, carried, each, story_by_chance
from oathhall.books import is_unsure
from oathhall.story import answers, awake_after, books_after, decisions_after, letters_after, waits

# All others have said yes and the house that leads, the one numbered 1, is stopped.
STUCK = begun([4]) + carried([0, 1]) + [("stop", 1)]


class MustWait(unittest.TestCase):
    def test_for_the_house_that_leads(self):
        self.assertEqual(waits(3, [], STUCK, 0, 4), [1])
        self.assertEqual(waits(3, [], STUCK, 2, 4), [1])

    def test_for_all_that_are_stopped_rising(self):
        deeds = begun([3]) + carried([0]) + [("stop", 4), ("stop", 3), ("stop", 1), ("stop", 2)]
        self.assertEqual(waits(5, [], deeds, 0, 3), [1, 2, 3, 4])
        deeds = begun([3]) + carried([1, 3]) + [("stop", 3), ("stop", 0), ("stop", 2)]
        self.assertEqual(waits(5, [], deeds, 1, 3), [0, 2, 3])
        self.assertEqual(waits(5, [], deeds, 4, 3), [0, 2, 3])

    def test_for_a_stopped_house_whatever_its_book(self):
        # House 0 has no line of the bargain, house 1 has it open, house 2 has refused it.
        deeds = begun([1]) + carried([1, 2]) + each("stop", 3)
        self.assertEqual(waits(4, [(2, 1)], deeds, 3, 1), [0, 1, 2])

    def test_the_house_that_leads_bound_it_without_telling(self):
        deeds = begun([4]) + carried([0, 1, 2]) + [("carry", 3, False)]
        self.assertEqual(waits(3, [], deeds, 0, 4), [1])
        self.assertEqual(decisions_after(3, [], deeds, 4), [None, "bound", None])

    def test_bound_was_told_to_a_stopped_house_alone(self):
        deeds = begun([1]) + carried([0, 1, 2]) + [("carry", 3, False), ("wake", 1)] + carried([2]) + [("stop", 1)]
        self.assertEqual(letters_after(3, [], deeds)[4:], [(1, 0, 1, "bound")])
        self.assertEqual(waits(3, [], deeds, 2, 1), [])
        self.assertEqual(waits(3, [], deeds + [("stop", 0)], 2, 1), [0, 1])
        self.assertEqual(waits(3, [], deeds + [("stop", 0), ("wake", 0)], 2, 1), [])

    def test_off_was_told_to_a_stopped_house_alone(self):
        # House 2 refuses when house 0 asks it; then only house 3 is up, and unsure.
        deeds = begun([1]) + carried([0, 2]) + [("query", 0, 1)] + carried([6]) + each("stop", 3)
        self.assertEqual(waits(4, [], deeds, 3, 1), [0, 1, 2])
        self.assertEqual(waits(4, [], deeds + [("wake", 0)], 3, 1), [])

    def test_other_words_and_other_bargains_do_not_help(self):
        # Of 4 there are ask, yes and query; 7 is off, and that was told to all.
        deeds = begun([7]) + [("stop", 1), ("wake", 1)] + begun([4]) + carried([4, 5]) + [("stop", 1), ("query", 0, 4)]
        self.assertEqual(waits(3, [], deeds, 0, 4), [1])
        self.assertEqual(waits(3, [], deeds, 0, 7), [])

    def test_after_a_sweep_too(self):
        self.assertEqual(waits(3, [], STUCK + [("query", 0, 4), ("sweep",), ("sweep",)], 0, 4), [1])

    def test_twenty_houses_and_a_hundred_figures(self):
        lead = HUGE % 20
        deeds = begun([HUGE]) + carried(range(19)) + [("stop", lead)]
        deeds.extend(("stop", number) for number in (19, 3, 0))
        self.assertEqual(waits(20, [], deeds, 5, HUGE), sorted([0, 3, 19, lead]))
        self.assertEqual(waits(20, [], deeds, 5, HUGE + 20), [])


class NeedNotWait(unittest.TestCase):
    def test_the_empty_story(self):
        self.assertEqual(waits(2, [], [], 0, 0), [])

    def test_stopped(self):
        deeds = STUCK + [("stop", 0)]
        self.assertEqual(waits(3, [], deeds, 0, 4), [])
        self.assertEqual(waits(3, [], deeds, 1, 4), [])
        self.assertEqual(waits(3, [], deeds, 2, 4), [0, 1])

    def test_not_unsure(self):
        self.assertEqual(waits(3, [], STUCK, 0, 7), [])
        self.assertEqual(waits(3, [(0, 4)], STUCK, 0, 4), [])
        self.assertEqual(waits(3, [], begun([4]) + [("stop", 0)], 1, 4), [])
        self.assertEqual(waits(3, [], begun([4]) + [("sweep",), ("stop", 1)], 0, 4), [])

    def test_a_house_that_is_up_has_no_line(self):
        deeds = begun([4]) + carried([0]) + [("stop", 1)]
        self.assertEqual(waits(3, [], deeds, 0, 4), [])
        self.assertEqual(waits(3, [], deeds + [("stop", 2)], 0, 4), [1, 2])

    def test_a_house_that_is_up_has_it_open(self):
        deeds = begun([4]) + carried([0, 1]) + [("stop", 2)]
        self.assertEqual(waits(3, [], deeds, 0, 4), [])

    def test_a_house_that_is_up_has_refused(self):
        self.assertEqual(waits(3, [(2, 4)], STUCK, 0, 4), [])
        self.assertEqual(waits(3, [(2, 4)], STUCK + [("stop", 2)], 0, 4), [1, 2])

    def test_a_house_that_is_up_has_it_decided(self):
        deeds = begun([4]) + carried([0, 1, 2, 3, 5]) + [("stop", 1)]
        self.assertEqual(waits(3, [], deeds, 0, 4), [])
        self.assertEqual(decisions_after(3, [], deeds, 4), [None, "bound", "bound"])

    def test_a_letter_tells_bound(self):
        deeds = begun([4]) + carried([0, 1, 2, 3]) + [("stop", 1)]
        self.assertEqual(decisions_after(3, [], deeds, 4), [None, "bound", None])
        self.assertEqual(waits(3, [], deeds, 0, 4), [])
        self.assertEqual(waits(3, [], deeds, 2, 4), [])

    def test_a_letter_tells_off(self):
        deeds = begun([4]) + carried([0, 1]) + [("stop", 1), ("wake", 1), ("stop", 1)]
        self.assertEqual(waits(3, [], deeds, 0, 4), [])

    def test_a_letter_to_another_house_that_is_up(self):
        # House 0 asked and was told off by house 2, which is stopped now; house 3 was told nothing.
        deeds = begun([1]) + carried([0, 2]) + [("query", 0, 1)] + carried([6]) + [("stop", 1), ("stop", 2)]
        self.assertEqual(waits(4, [], deeds, 3, 1), [])
        self.assertEqual(waits(4, [], deeds + [("stop", 0)], 3, 1), [0, 1, 2])

    def test_all_are_up(self):
        deeds = begun([4]) + carried([0, 1])
        self.assertEqual(waits(3, [], deeds, 0, 4), [])


class WhatWaitingMeans(unittest.TestCase):
    def unsure_ones(self, seed):
        count, against, deeds, bargains = story_by_chance(seed)
        books = books_after(count, against, deeds)
        awake = awake_after(count, against, deeds)
        for bargain in bargains:
            for number in range(count):
                if awake[number] and is_unsure(books[number], bargain):
                    yield count, against, deeds, number, bargain

    def told_by_letters(self, count, against, deeds, number, bargain):
        """The letters that tell a decision, then a query and what it brings; no ask, which would make more unsure."""
        letters = letters_after(count, against, deeds)
        told = ((bargain, "bound"), (bargain, "off"))
        telling = [which for which, letter in enumerate(letters) if letter[2:] in told]
        new = range(len(letters), len(letters) + count * count)
        return carried(telling) + [("query", number, bargain)] + carried(new)

    def test_who_waits_stays_unsure_until_one_comes_up(self):
        waiting = 0
        for seed in range(500):
            for count, against, deeds, number, bargain in self.unsure_ones(seed):
                if waits(count, against, deeds, number, bargain) == []:
                    continue
                waiting += 1
                asked = [("query", other, bargain) for other in range(count)]
                more = deeds + (asked + [("sweep",)]) * 2
                with self.subTest(seed=seed, number=number, bargain=bargain):
                    self.assertIsNone(decisions_after(count, against, more, bargain)[number])
        self.assertGreater(waiting, 20)

    def test_who_need_not_wait_can_be_told(self):
        free = 0
        for seed in range(500):
            for count, against, deeds, number, bargain in self.unsure_ones(seed):
                if waits(count, against, deeds, number, bargain) != []:
                    continue
                free += 1
                more = deeds + self.told_by_letters(count, against, deeds, number, bargain)
                with self.subTest(seed=seed, number=number, bargain=bargain):
                    self.assertIsNotNone(decisions_after(count, against, more, bargain)[number])
        self.assertGreater(free, 100)

    def test_all_come_up(self):
        self.assertEqual(waits(3, [], STUCK + each("wake", 3), 0, 4), [])
        self.assertEqual(answers(3, [], STUCK + each("wake", 3))[-3:], [None, [("off", 4)], None])


if __name__ == "__main__":
    unittest.main()
