"""The story's five functions over the same stories, in small and in large."""

import unittest

from halls import HUGE, begun, carried, each, story_by_chance, to_others
from oathhall.books import decision_in, is_sound
from oathhall.story import answers, awake_after, books_after, decisions_after, letters_after


def lines_told(deeds, answered, count):
    """By house the lines that the answers tell; for a carry the house isn't told, so these stand apart."""
    told = [[] for number in range(count)]
    carried_lines = []
    for deed, answer in zip(deeds, answered):
        if deed[0] == "sweep":
            for number, line in answer:
                told[number].append(line)
        elif deed[0] == "begin" and answer is not None:
            told[deed[1] % count].extend(answer)
        elif deed[0] == "wake" and answer is not None:
            told[deed[1]].extend(answer)
        elif deed[0] == "carry" and answer is not None:
            carried_lines.extend(answer)
    return told, carried_lines


class Small(unittest.TestCase):
    def test_the_empty_story(self):
        for count in (2, 3, 20):
            for against in ([], [(1, 1), (0, HUGE)]):
                self.assertEqual(answers(count, against, []), [])
                self.assertEqual(books_after(count, against, []), [[]] * count)
                self.assertEqual(letters_after(count, against, []), [])
                self.assertEqual(awake_after(count, against, []), [True] * count)
                self.assertEqual(decisions_after(count, against, [], 1), [None] * count)

    def test_one_story_told_by_all(self):
        deeds = begun([4, 2]) + carried([0, 1, 4, 5]) + [("stop", 2)] + carried([6, 6, 2])
        against = [(0, 2)]
        self.assertEqual(
            answers(3, against, deeds),
            [[("open", 4)], [("open", 2)], [("yes", 4)], [("yes", 4)], [], [("bound", 4)], True]
            + [[("bound", 4)], [], [("no", 2)]],
        )
        self.assertEqual(
            books_after(3, against, deeds),
            [[("yes", 4), ("bound", 4), ("no", 2)], [("open", 4), ("bound", 4)], [("open", 2), ("yes", 4)]],
        )
        self.assertEqual(
            letters_after(3, against, deeds),
            to_others(1, 3, 4, "ask") + to_others(2, 3, 2, "ask") + [(0, 1, 4, "yes"), (2, 1, 4, "yes")]
            + to_others(1, 3, 4, "bound") + [(0, 2, 2, "no")],
        )
        self.assertEqual(awake_after(3, against, deeds), [True, True, False])
        self.assertEqual(decisions_after(3, against, deeds, 4), ["bound", "bound", None])
        self.assertEqual(decisions_after(3, against, deeds, 2), ["off", None, None])
        self.assertEqual(decisions_after(3, against, deeds, 7), [None, None, None])

    def test_decided_as_off_by_no_and_by_off(self):
        deeds = begun([4]) + [("sweep",)]
        self.assertEqual(decisions_after(3, [(2, 4)], deeds, 4), ["off", "off", "off"])
        self.assertEqual(books_after(3, [(2, 4)], deeds)[2], [("no", 4)])
        self.assertEqual(decisions_after(3, [(1, 4)], deeds, 4), [None, "off", None])

    def test_awake_is_true_or_false(self):
        answered = awake_after(3, [], [("stop", 1), ("stop", 2), ("wake", 2), ("begin", 3, False)])
        self.assertEqual(answered, [False, False, True])
        self.assertEqual([isinstance(value, bool) for value in answered], [True] * 3)


class Together(unittest.TestCase):
    def test_they_tell_of_one_another(self):
        for seed in range(150):
            count, against, deeds, bargains = story_by_chance(seed)
            answered = answers(count, against, deeds)
            books = books_after(count, against, deeds)
            with self.subTest(seed=seed):
                self.assertEqual(len(answered), len(deeds))
                self.assertEqual([is_sound(book) for book in books], [True] * count)
                told, carried_lines = lines_told(deeds, answered, count)
                lines = [(number, line) for number in range(count) for line in books[number]]
                known = [(number, line) for number in range(count) for line in told[number]]
                self.assertEqual(len(known) + len(carried_lines), len(lines))
                self.assertEqual(set(known) - set(lines), set())
                for bargain in bargains:
                    decided = [decision_in(book, bargain) for book in books]
                    self.assertEqual(decisions_after(count, against, deeds, bargain), decided)

    def test_a_longer_story_goes_on_from_the_shorter(self):
        for seed in range(60):
            count, against, deeds, bargains = story_by_chance(seed)
            half = deeds[:len(deeds) // 2]
            with self.subTest(seed=seed):
                self.assertEqual(answers(count, against, deeds)[:len(half)], answers(count, against, half))
                letters = letters_after(count, against, half)
                self.assertEqual(letters_after(count, against, deeds)[:len(letters)], letters)
                for late, early in zip(books_after(count, against, deeds), books_after(count, against, half)):
                    self.assertEqual(late[:len(early)], early)


class Large(unittest.TestCase):
    def test_two_houses_up_to_twenty(self):
        for count in range(2, 21):
            bargain = HUGE + count
            lead = bargain % count
            deeds = begun([bargain]) + [("sweep",)]
            others = [number for number in range(count) if number != lead]
            written = [(number, ("yes", bargain)) for number in others] + [(lead, ("bound", bargain))]
            written.extend((number, ("bound", bargain)) for number in others)
            self.assertEqual(answers(count, [], deeds), [[("open", bargain)], written])
            sent = [(number, lead, bargain, "yes") for number in others]
            sent = to_others(lead, count, bargain, "ask") + sent + to_others(lead, count, bargain, "bound")
            self.assertEqual(letters_after(count, [], deeds), sent)
            self.assertEqual(decisions_after(count, [], deeds, bargain), ["bound"] * count)
            refused = [(others[-1], bargain)]
            self.assertEqual(decisions_after(count, refused, deeds, bargain), ["off"] * count)

    def test_near_bargains_of_a_hundred_figures_are_told_apart(self):
        low = 10 ** 100 - 3
        deeds = begun([low, low + 1, low + 2]) + [("sweep",)]
        against = [(3, low + 1)]
        self.assertEqual(decisions_after(20, against, deeds, low), ["bound"] * 20)
        self.assertEqual(decisions_after(20, against, deeds, low + 1), ["off"] * 20)
        self.assertEqual(decisions_after(20, against, deeds, low + 2), ["bound"] * 20)

    def test_two_hundred_and_fifty_deeds(self):
        bargains = [HUGE + step for step in range(229)]
        against = [(step % 20, HUGE + step) for step in range(0, 229, 7)]
        deeds = begun(bargains) + each("stop", 20) + [("sweep",)]
        self.assertEqual(len(deeds), 250)
        answered = answers(20, against, deeds)
        self.assertEqual(answered[229:], [True] * 20 + [[]])
        self.assertEqual(awake_after(20, against, deeds), [False] * 20)
        opened = [line for book in books_after(20, against, deeds) for line in book]
        self.assertEqual(sorted(line[1] for line in opened), bargains)
        swept = begun(bargains) + [("sweep",)]
        for step in (0, 1, 6, 7, 228):
            refused = any(pair[1] == HUGE + step for pair in against)
            decided = set(decisions_after(20, against, swept, HUGE + step)) - {None}
            self.assertEqual(decided, {"off"} if refused else {"bound"})

    def test_many_sweeps(self):
        deeds = begun([HUGE]) + [("sweep",)] * 249
        answered = answers(4, [], deeds)
        self.assertEqual(len(answered[1]), 7)
        self.assertEqual(answered[2:], [[]] * 248)
        # By each sweep three yes more, and each yes there brings a bound; the first three together.
        sent = 3 + 3 * 249 + 3 * sum(range(2, 250)) + 3
        self.assertEqual(len(letters_after(4, [], deeds)), sent)

    def test_many_sweeps_with_a_house_stopped(self):
        missing = (HUGE + 1) % 20
        deeds = begun([HUGE]) + [("stop", missing)] + [("sweep",)] * 120 + [("wake", missing), ("sweep",)]
        self.assertEqual(decisions_after(20, [], deeds[:-2], HUGE), [None] * 20)
        self.assertEqual(decisions_after(20, [], deeds, HUGE), ["bound"] * 20)

    def test_many_stops_and_wakes(self):
        deeds = []
        for step in range(40):
            deeds.extend([("begin", HUGE + step, True), ("sweep",), ("stop", step % 20), ("wake", step % 20)])
        answered = answers(20, [], deeds)
        for step in range(40):
            self.assertEqual(len(answered[4 * step + 1]), 39)
            self.assertEqual(answered[4 * step + 2:4 * step + 4], [True, []])


if __name__ == "__main__":
    unittest.main()
