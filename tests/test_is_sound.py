"""Which books can be a house's: the first sentence of point 15."""

import itertools
import unittest

from oathhall.books import is_sound
from halls import HUGE

WORDS = ("open", "yes", "no", "bound", "off")
SOUND_ROWS = {
    (), ("open",), ("yes",), ("no",), ("off",),
    ("open", "bound"), ("open", "off"), ("yes", "bound"), ("yes", "off"),
}


class IsSound(unittest.TestCase):
    def check(self, book, expected):
        before = list(book)
        with self.subTest(book=book):
            self.assertIs(is_sound(book), expected)
            self.assertEqual(book, before)

    def test_empty_book(self):
        self.check([], True)

    def test_each_word_first(self):
        for bargain in (0, 1, HUGE):
            for word in ("open", "yes", "no", "off"):
                self.check([(word, bargain)], True)
            self.check([("bound", bargain)], False)

    def test_each_word_behind_each_only_line(self):
        for first, second in itertools.product(("open", "yes", "no", "off"), WORDS):
            sound = first in ("open", "yes") and second in ("bound", "off")
            self.check([(first, 6), (second, 6)], sound)

    def test_a_third_line(self):
        for first, second, third in itertools.product(WORDS, repeat=3):
            self.check([(first, 6), (second, 6), (third, 6)], False)

    def test_the_same_line_again(self):
        for word in WORDS:
            self.check([(word, 2), (word, 2)], False)
            self.check([(word, 2), ("yes", 3), (word, 2)], False)
        self.check([("yes", 2), ("bound", 2), ("bound", 2)], False)
        self.check([("open", 2), ("off", 2), ("off", 2)], False)

    def test_the_same_word_of_several_bargains(self):
        for word in WORDS:
            self.check([(word, 2), (word, 3), (word, HUGE), (word, HUGE + 1)], word != "bound")

    def test_bound_is_not_borne_by_another_bargain(self):
        self.check([("yes", 2), ("bound", 3)], False)
        self.check([("open", HUGE), ("bound", HUGE + 1)], False)

    def test_bargains_mixed(self):
        self.check([("open", 3), ("yes", 1), ("no", 0), ("bound", 1), ("off", 9), ("off", 3)], True)
        self.check([("open", 3), ("yes", 1), ("no", 0), ("bound", 1), ("off", 9), ("off", 0)], False)
        self.check([("open", 3), ("yes", 1), ("bound", 1), ("off", 9), ("bound", 9)], False)
        self.check([("bound", 3), ("yes", 3)], False)

    def test_every_book_of_four_lines_over_two_bargains(self):
        lines = [(word, bargain) for word in WORDS for bargain in (0, 1)]
        for length in range(5):
            for rows in itertools.product(lines, repeat=length):
                words = [tuple(word for word, told in rows if told == bargain) for bargain in (0, 1)]
                expected = words[0] in SOUND_ROWS and words[1] in SOUND_ROWS
                if is_sound(list(rows)) is not expected:
                    self.fail(f"is_sound of {rows} is not {expected}")

    def test_a_fault_in_any_place(self):
        sound = [("yes", 0), ("open", 1), ("bound", 0), ("no", 2), ("off", 3)]
        for place in range(len(sound) + 1):
            self.check(sound[:place] + [("bound", 77)] + sound[place:], False)

    def test_two_hundred_lines(self):
        book = [("yes", bargain) for bargain in range(100)]
        book = book + [("bound", bargain) for bargain in range(99, -1, -1)]
        self.check(book, True)
        self.check(book + [("off", 50)], False)


if __name__ == "__main__":
    unittest.main()
