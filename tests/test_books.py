"""What a book tells of a bargain: point 4."""

import unittest

from oathhall.books import decision_in, is_unsure, knows, left_open, vote_in
from halls import HUGE, book_of

# Each way in which a bargain can stand in a book:
# its words, and then vote, decision, unsure and left open.
WAYS = [
    ((), None, None, False, False),
    (("open",), "open", None, False, True),
    (("yes",), "yes", None, True, False),
    (("no",), "no", "off", False, False),
    (("off",), None, "off", False, False),
    (("open", "bound"), "open", "bound", False, False),
    (("open", "off"), "open", "off", False, False),
    (("yes", "bound"), "yes", "bound", False, False),
    (("yes", "off"), "yes", "off", False, False),
]


def mixed_book():
    """All first lines ahead of all second lines, bargains falling; bargain k stands in way k."""
    firsts = [(WAYS[k][0][0], k) for k in range(len(WAYS) - 1, 0, -1)]
    seconds = [(WAYS[k][0][1], k) for k in range(1, len(WAYS)) if len(WAYS[k][0]) == 2]
    return firsts + seconds


class Readings(unittest.TestCase):
    def check(self, book, bargain, way):
        words, vote, decision, unsure, opened = way
        before = list(book)
        with self.subTest(book=book, bargain=bargain):
            self.assertIs(knows(book, bargain), words != ())
            self.assertEqual(vote_in(book, bargain), vote)
            self.assertEqual(decision_in(book, bargain), decision)
            self.assertIs(is_unsure(book, bargain), unsure)
            self.assertEqual(bargain in left_open(book), opened)
            self.assertEqual(book, before)

    def test_empty_book(self):
        for bargain in (-1, 0, 1, 7, HUGE):
            self.check([], bargain, WAYS[0])
        self.assertEqual(left_open([]), [])

    def test_each_way_alone(self):
        for way in WAYS:
            for bargain in (0, 1, 12, HUGE):
                self.check(book_of(way[0], bargain), bargain, way)

    def test_left_open_of_each_way_alone(self):
        for way in WAYS:
            for bargain in (0, 12, HUGE):
                with self.subTest(way=way, bargain=bargain):
                    expected = [bargain] if way[4] else []
                    self.assertEqual(left_open(book_of(way[0], bargain)), expected)

    def test_bargains_without_a_line(self):
        for way in WAYS:
            for bargain in (-HUGE, -1, 0, 3, 5, HUGE):
                self.check(book_of(way[0], 4), bargain, WAYS[0])

    def test_minus_one_is_not_the_last_nor_bargain_one(self):
        self.check([("open", 0), ("yes", 1), ("bound", 0)], -1, WAYS[0])

    def test_bargains_mixed_in_one_book(self):
        book = mixed_book()
        for bargain in range(1, len(WAYS)):
            self.check(book, bargain, WAYS[bargain])
        self.check(book, 0, WAYS[0])
        self.check(book, len(WAYS), WAYS[0])
        self.check(book, -1, WAYS[0])

    def test_two_ways_do_not_touch_one_another(self):
        for one in WAYS:
            for two in WAYS:
                book = book_of(one[0][:1], 8) + book_of(two[0], 3) + book_of(one[0][1:], 8)
                self.check(book, 8, one)
                self.check(book, 3, two)

    def test_very_large_bargains_that_are_near(self):
        book = [("open", HUGE), ("yes", HUGE + 1), ("no", HUGE - 1), ("bound", HUGE + 1)]
        self.check(book, HUGE, WAYS[1])
        self.check(book, HUGE + 1, WAYS[7])
        self.check(book, HUGE - 1, WAYS[3])
        self.check(book, HUGE + 2, WAYS[0])
        self.assertEqual(left_open(book), [HUGE])

    def test_two_hundred_lines(self):
        book = [("yes", bargain) for bargain in range(100)]
        book = book + [("bound" if bargain % 2 else "off", bargain) for bargain in range(99)]
        self.check(book, 99, WAYS[2])
        self.check(book, 98, WAYS[8])
        self.check(book, 97, WAYS[7])


class LeftOpenInOrder(unittest.TestCase):
    def test_order_of_opening_not_of_numbers(self):
        self.assertEqual(left_open([("open", 9), ("open", 3), ("open", HUGE), ("open", 6)]), [9, 3, HUGE, 6])

    def test_order_with_decided_ones_between(self):
        book = [
            ("open", 8), ("open", 20), ("yes", 5), ("open", 2), ("off", 7), ("off", 20),
            ("open", 14), ("no", 1), ("open", 0), ("bound", 14), ("bound", 5),
        ]
        before = list(book)
        self.assertEqual(left_open(book), [8, 2, 0])
        self.assertEqual(book, before)

    def test_answer_is_a_list_of_its_own(self):
        book = [("open", 4), ("open", 2)]
        opened = left_open(book)
        self.assertIsInstance(opened, list)
        opened.clear()
        self.assertEqual(left_open(book), [4, 2])


if __name__ == "__main__":
    unittest.main()
