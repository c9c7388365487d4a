"""Point 1: what is handed in is not changed and not kept, and what is given back is the caller's own."""

import copy
import unittest

from halls import HUGE, begun, carried, story_by_chance
from oathhall.errors import HallError
from oathhall.house import House
from oathhall.lines import read, shown
from oathhall.story import answers, awake_after, books_after, decisions_after, letters_after, waits

AFTER = (answers, books_after, letters_after, awake_after)


class NotChanged(unittest.TestCase):
    def test_stories(self):
        for seed in range(60):
            count, against, deeds, bargains = story_by_chance(seed)
            as_it_was = copy.deepcopy((against, deeds))
            for told in AFTER:
                told(count, against, deeds)
            for bargain in bargains:
                decisions_after(count, against, deeds, bargain)
                waits(count, against, deeds, 0, bargain)
            self.assertEqual((against, deeds), as_it_was)

    def test_books_and_texts(self):
        book = [("open", HUGE), ("yes", 3), ("bound", HUGE)]
        shown(book)
        self.assertEqual(book, [("open", HUGE), ("yes", 3), ("bound", HUGE)])
        for lines in (["open 1", "bound 1"], ["bound 1"], ["open 1", "open 01"], []):
            as_it_was = list(lines)
            try:
                read(lines)
            except HallError:
                pass
            self.assertEqual(lines, as_it_was)


class NotKept(unittest.TestCase):
    def test_told_again_it_is_the_same(self):
        for seed in range(40):
            count, against, deeds, bargains = story_by_chance(seed)
            for told in AFTER:
                first = told(count, against, deeds)
                as_it_was = copy.deepcopy(first)
                first.append("more")
                for part in first:
                    if isinstance(part, list):
                        part.append("more")
                self.assertEqual(told(count, against, deeds), as_it_was)

    def test_answers_stand_apart(self):
        deeds = begun([1]) + carried([0, 1, 2]) + [("stop", 0), ("wake", 0), ("sweep",), ("sweep",)]
        answered = answers(2, [], deeds)
        answered[0].append("more")
        self.assertEqual(answered[1:4], [[("yes", 1)], [("bound", 1)], [("bound", 1)]])
        lists = [answer for answer in answered if isinstance(answer, list)]
        for place, one in enumerate(lists):
            self.assertTrue(all(one is not other for other in lists[place + 1:]))

    def test_books_stand_apart(self):
        books = books_after(3, [], [])
        books[0].append("more")
        self.assertEqual(books[1:], [[], []])

    def test_read_gives_a_new_list(self):
        lines = ["yes 4"]
        book = read(lines)
        lines.append("no 5")
        self.assertEqual(book, [("yes", 4)])
        texts = shown(book)
        book.append(("no", 5))
        self.assertEqual(texts, ["yes 4"])


class FromTheBookAlone(unittest.TestCase):
    def test_a_house_with_a_given_book_comes_up_from_it(self):
        house = House(1, 3, [])
        house.stop()
        house.book = [("open", 4), ("yes", 3), ("open", 7), ("bound", 4)]
        self.assertEqual(house.wake(), [(1, 0, 7, "off"), (1, 2, 7, "off")])
        self.assertEqual(house.got((0, 1, 4, "yes")), [(1, 0, 4, "bound")])
        self.assertEqual(house.got((2, 1, 3, "query")), [])
        self.assertEqual(house.query(3), [(1, 0, 3, "query"), (1, 2, 3, "query")])

    def test_stopped_and_given_another_book(self):
        house = House(1, 3, [])
        house.begin(4)
        house.got((0, 1, 4, "yes"))
        house.stop()
        house.book = [("no", 4)]
        self.assertEqual(house.wake(), [])
        self.assertEqual(house.got((0, 1, 4, "yes")), [(1, 0, 4, "off")])


if __name__ == "__main__":
    unittest.main()
