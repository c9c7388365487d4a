"""Point 15: how a line is written, and which texts are refused, and how."""

import random
import unittest

from halls import HUGE, story_by_chance
from oathhall.errors import HallError, NoBook, NoLine
from oathhall.lines import read, shown
from oathhall.story import books_after

# Every run of words that a sound book can have of one bargain.
RUNS = (
    ["open"], ["yes"], ["no"], ["off"],
    ["open", "bound"], ["open", "off"], ["yes", "bound"], ["yes", "off"],
)
WRONG_TEXTS = (
    "", " ", "yes", "yes ", " 4", "4", "yes4", "4 yes", "yes yes", "yes 4 4", "yes 4 no", "4 4",
    "yes 04", "yes 00", "yes 004", "yes +4", "yes -4", "yes -0", "yes +0", "yes 4.0", "yes 4e2", "yes 0x4",
    "yes 1_000", "yes 1,000", "yes four", "yes 4x", "yes x4", "yes 4-4", "yes (4)",
    "yes  4", " yes 4", "yes 4 ", "  yes 4", "yes 4  ", "\tyes 4", "yes\t4", "yes 4\n", "\nyes 4", "yes\n4", "yes 4\r",
    "yes 1 2", "yes \t4", "yes 4\t", "yes\u00a04", "yes \u00a04", "yes\u20034",
    "Yes 4", "YES 4", "ask 4", "query 4", "ja 4", "ye 4", "yess 4", "None 4", "bound, 4", "opens 4", "'yes' 4",
    "yes \u0664", "yes \u00b2", "yes \uff14", "yes 1\u0664", "yes \u06641", "yes \u00bd", "yes \u2463", "yes \u096a",
)
# Each can stand alone but for what is ahead of it.
UNSOUND = (
    ["bound 4"], ["bound 0"], ["no 4", "bound 4"], ["no 4", "off 4"], ["off 4", "bound 4"], ["off 4", "off 4"],
    ["off 4", "yes 4"], ["off 4", "open 4"], ["off 4", "no 4"], ["no 4", "no 4"], ["yes 4", "yes 4"], ["yes 4", "no 4"],
    ["yes 4", "open 4"], ["open 4", "open 4"], ["open 4", "yes 4"], ["open 4", "no 4"], ["no 4", "yes 4"],
    ["no 4", "open 4"], ["yes 4", "bound 4", "bound 4"], ["yes 4", "off 4", "off 4"], ["open 4", "bound 4", "off 4"],
    ["yes 4", "bound 5"], ["yes 5", "no 6", "bound 4"], ["yes 4", "bound 4", "yes 4"], ["open 4", "off 4", "open 4"],
)


def book_by_chance(seed):
    """A sound book: the runs of several bargains, mixed with one another."""
    chance = random.Random(seed)
    bargains = chance.sample([0, 1, 9, 10, 100, HUGE, HUGE + 1, 10 ** 100 - 1], chance.randrange(9))
    left = [[(word, bargain) for word in chance.choice(RUNS)] for bargain in bargains]
    book = []
    while left:
        run = chance.choice(left)
        book.append(run.pop(0))
        left = [run for run in left if run]
    return book


class Shown(unittest.TestCase):
    def test_each_word(self):
        book = [("open", 3), ("yes", 4), ("no", 5), ("off", 6), ("bound", 3), ("off", 4)]
        self.assertEqual(shown(book), ["open 3", "yes 4", "no 5", "off 6", "bound 3", "off 4"])

    def test_nought_and_the_empty_book(self):
        self.assertEqual(shown([]), [])
        self.assertEqual(shown([("yes", 0)]), ["yes 0"])
        self.assertEqual(shown([("yes", 10)]), ["yes 10"])

    def test_a_hundred_figures(self):
        self.assertEqual(shown([("open", 10 ** 99 + 7)]), ["open 1" + "0" * 98 + "7"])
        self.assertEqual(shown([("open", 10 ** 100 - 1)]), ["open " + "9" * 100])


class ReadBack(unittest.TestCase):
    def test_each_run_of_words(self):
        for bargain in (0, 1, 10, HUGE, 10 ** 100 - 1, 10 ** 120):
            for run in RUNS:
                book = [(word, bargain) for word in run]
                self.assertEqual(read(shown(book)), book)

    def test_the_texts_themselves(self):
        self.assertEqual(read([]), [])
        self.assertEqual(read(["yes 0"]), [("yes", 0)])
        self.assertEqual(read(["open 30", "yes 4", "bound 30"]), [("open", 30), ("yes", 4), ("bound", 30)])
        self.assertEqual(read(["off 1" + "0" * 98 + "7"]), [("off", 10 ** 99 + 7)])
        self.assertEqual(read(["no 9876543210"]), [("no", 9876543210)])

    def test_kinds(self):
        book = read(["yes 4"])
        self.assertIsInstance(book, list)
        self.assertIsInstance(book[0], tuple)
        self.assertIsInstance(book[0][1], int)

    def test_mixed_books(self):
        for seed in range(300):
            book = book_by_chance(seed)
            with self.subTest(seed=seed):
                self.assertEqual(read(shown(book)), book)

    def test_books_of_stories(self):
        for seed in range(100):
            count, against, deeds, bargains = story_by_chance(seed)
            for book in books_after(count, against, deeds):
                self.assertEqual(read(shown(book)), book)

    def test_two_hundred_lines(self):
        book = [("yes", HUGE + step) for step in range(100)] + [("bound", HUGE + step) for step in range(100)]
        self.assertEqual(read(shown(book)), book)


class Refused(unittest.TestCase):
    def assert_refused(self, error, lines):
        with self.subTest(lines=lines):
            with self.assertRaises(HallError) as caught:
                read(lines)
            self.assertIs(type(caught.exception), error)

    def test_the_writing_of_no_line(self):
        for text in WRONG_TEXTS:
            self.assert_refused(NoLine, [text])

    def test_at_any_place(self):
        for text in WRONG_TEXTS:
            for lines in ([text, "no 7"], ["no 7", text], ["no 7", text, "open 8"]):
                self.assert_refused(NoLine, lines)

    def test_a_hundred_figures_and_a_wrong_one(self):
        figures = "1" * 99
        self.assertEqual(read(["yes " + figures]), [("yes", int(figures))])
        for text in ("yes 0" + figures, "yes " + figures + "x", "yes -" + figures, "yes " + figures + " "):
            self.assert_refused(NoLine, [text])

    def test_lines_that_can_not_stand(self):
        for lines in UNSOUND:
            self.assert_refused(NoBook, lines)
            self.assert_refused(NoBook, ["no 7", "open 8"] + lines)
            self.assert_refused(NoBook, lines + ["no 7"])

    def test_huge_bargains_that_can_not_stand(self):
        self.assert_refused(NoBook, [f"yes {HUGE}", f"bound {HUGE + 1}"])
        self.assert_refused(NoBook, [f"yes {HUGE}", f"yes {HUGE}"])

    def test_no_line_comes_first(self):
        for lines in UNSOUND:
            for text in ("", "yes 04", "bound  4", "ask 4", "yes -4"):
                self.assert_refused(NoLine, lines + [text])
                self.assert_refused(NoLine, [text] + lines)

    def test_refused_as_one_of_the_hall(self):
        with self.assertRaises(ValueError):
            read(["maybe 4"])
        with self.assertRaises(ValueError):
            read(["bound 4"])


if __name__ == "__main__":
    unittest.main()
