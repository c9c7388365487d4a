"""Point 13: a house that is stopped when it has written its lines, ahead of sending."""

import unittest

from halls import begun, carried, to_others
from oathhall.story import answers, awake_after, books_after, letters_after


class StopsAhead(unittest.TestCase):
    def assert_stopped(self, count, against, ahead, deed, number, written):
        """The house of that number writes the lines, sends nothing and is stopped; all else is as it was."""
        deeds = ahead + [deed]
        self.assertEqual(answers(count, against, deeds)[-1], written)
        books = books_after(count, against, ahead)
        books[number] = books[number] + written
        self.assertEqual(books_after(count, against, deeds), books)
        self.assertEqual(letters_after(count, against, deeds), letters_after(count, against, ahead))
        awake = awake_after(count, against, ahead)
        self.assertTrue(awake[number])
        awake[number] = False
        self.assertEqual(awake_after(count, against, deeds), awake)

    def test_begin(self):
        self.assert_stopped(3, [], [], ("begin", 4, False), 1, [("open", 4)])

    def test_begin_of_who_is_against(self):
        self.assert_stopped(3, [(1, 4)], [], ("begin", 4, False), 1, [("no", 4)])

    def test_ask(self):
        self.assert_stopped(3, [], begun([4]), ("carry", 0, False), 0, [("yes", 4)])
        self.assert_stopped(3, [(0, 4)], begun([4]), ("carry", 0, False), 0, [("no", 4)])

    def test_ask_again(self):
        self.assert_stopped(3, [], begun([4]) + carried([0]), ("carry", 0, False), 0, [])

    def test_yes(self):
        ahead = begun([4]) + carried([0, 1])
        self.assert_stopped(3, [], ahead, ("carry", 2, False), 1, [])
        self.assert_stopped(3, [], ahead + carried([2]), ("carry", 3, False), 1, [("bound", 4)])
        self.assert_stopped(3, [], ahead + carried([2, 3]), ("carry", 3, False), 1, [])

    def test_no(self):
        ahead = begun([4]) + carried([0])
        self.assert_stopped(3, [(0, 4)], ahead, ("carry", 2, False), 1, [("off", 4)])

    def test_bound_and_off(self):
        ahead = begun([4]) + carried([0, 1, 2, 3])
        self.assert_stopped(3, [], ahead, ("carry", 4, False), 0, [("bound", 4)])
        self.assert_stopped(3, [(2, 4)], ahead, ("carry", 4, False), 0, [("off", 4)])

    def test_query(self):
        ahead = begun([4]) + carried([0]) + [("query", 0, 4)]
        self.assert_stopped(3, [], ahead, ("carry", 3, False), 1, [("off", 4)])
        self.assert_stopped(3, [], ahead, ("carry", 4, False), 2, [("no", 4)])

    def test_not_done(self):
        for ahead, deed in (
            ([("stop", 1)], ("begin", 4, False)),
            (begun([4]), ("begin", 4, False)),
            (begun([4]), ("carry", 2, False)),
            (begun([4]) + [("stop", 0)], ("carry", 0, False)),
            ([], ("carry", 0, False)),
        ):
            deeds = ahead + [deed]
            self.assertIsNone(answers(3, [], deeds)[-1])
            self.assertEqual(books_after(3, [], deeds), books_after(3, [], ahead))
            self.assertEqual(letters_after(3, [], deeds), letters_after(3, [], ahead))
            self.assertEqual(awake_after(3, [], deeds), awake_after(3, [], ahead))

    def test_opened_without_asking_is_off_when_the_house_comes_up(self):
        deeds = [("begin", 4, False), ("sweep",), ("wake", 1)]
        self.assertEqual(answers(3, [], deeds), [[("open", 4)], [], [("off", 4)]])
        self.assertEqual(letters_after(3, [], deeds), to_others(1, 3, 4, "off"))

    def test_bound_without_telling_stays_bound(self):
        deeds = begun([4]) + carried([0, 1, 2]) + [("carry", 3, False), ("sweep",), ("wake", 1), ("sweep",)]
        answered = answers(3, [], deeds)
        self.assertEqual(answered[4:], [[("bound", 4)], [], [], [(0, ("bound", 4)), (2, ("bound", 4))]])

    def test_yes_without_answering_is_answered_when_asked_again(self):
        deeds = begun([1]) + [("carry", 0, False), ("wake", 0)] + carried([0, 1])
        self.assertEqual(answers(2, [], deeds)[1:], [[("yes", 1)], [], [], [("bound", 1)]])

    def test_counted_is_forgotten(self):
        deeds = begun([4]) + carried([0, 1]) + [("carry", 2, False), ("wake", 1)] + carried([3])
        self.assertEqual(answers(3, [], deeds)[3:], [[], [("off", 4)], []])


if __name__ == "__main__":
    unittest.main()
