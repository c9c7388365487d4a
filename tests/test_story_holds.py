"""Point 14, over many stories told by chance: what holds in any of them."""

import unittest

from halls import HUGE, begun, carried, each, leader_of, story_by_chance
from oathhall.books import knows, vote_in
from oathhall.story import answers, books_after, decisions_after


class AnyStory(unittest.TestCase):
    def test_none_decides_otherwise_and_no_no_is_overruled(self):
        seen = {"bound": 0, "off": 0}
        for seed in range(600):
            count, against, deeds, bargains = story_by_chance(seed)
            books = books_after(count, against, deeds)
            for bargain in bargains:
                decided = decisions_after(count, against, deeds, bargain)
                for word in set(decided) - {None}:
                    seen[word] += 1
                with self.subTest(seed=seed, bargain=bargain):
                    self.assert_agreed(count, against, books, bargain, decided)
        self.assertGreater(min(seen.values()), 100)

    def assert_agreed(self, count, against, books, bargain, decided):
        if "bound" not in decided:
            return
        self.assertNotIn("off", decided)
        self.assertNotIn(bargain, [pair[1] for pair in against if pair[0] < count])
        votes = [vote_in(book, bargain) for book in books]
        self.assertEqual(votes.pop(leader_of(bargain, count)), "open")
        self.assertEqual(votes, ["yes"] * (count - 1))

    def test_what_is_decided_stays(self):
        for seed in range(200):
            count, against, deeds, bargains = story_by_chance(seed)
            more = story_by_chance(seed + 1000)[2]
            more = [deed for deed in more if deed[0] not in ("stop", "wake", "query") or deed[1] < count]
            later = deeds + more
            for bargain in bargains:
                with self.subTest(seed=seed, bargain=bargain):
                    then = decisions_after(count, against, deeds, bargain)
                    now = decisions_after(count, against, later, bargain)
                    for word, word_later in zip(then, now):
                        self.assertIn(word, (None, word_later))


class AllComeUp(unittest.TestCase):
    def test_all_decide_at_last(self):
        undecided = 0
        for seed in range(600):
            count, against, deeds, bargains = story_by_chance(seed)
            ended = deeds + each("wake", count) + [("sweep",)]
            books = books_after(count, against, ended)
            for bargain in bargains:
                ahead = books_after(count, against, deeds)
                undecided += sum(vote_in(book, bargain) == "yes" for book in ahead)
                with self.subTest(seed=seed, bargain=bargain):
                    for book, word in zip(books, decisions_after(count, against, ended, bargain)):
                        self.assertEqual(word is not None, knows(book, bargain))
        self.assertGreater(undecided, 100)

    def test_stopped_ahead_of_each_sending(self):
        for against in ([], [(0, 4)], [(2, 4)], [(1, 4)]):
            for stopped_at in range(8):
                deeds = [("begin", 4, stopped_at != 0)]
                deeds.extend(("carry", which, stopped_at != which + 1) for which in range(7))
                deeds.extend(each("wake", 3) + [("sweep",)])
                decided = set(decisions_after(3, against, deeds, 4)) - {None}
                self.assertEqual(len(decided), 1, (against, stopped_at))


class NoneStopped(unittest.TestCase):
    def test_bound_by_a_sweep(self):
        for seed in range(200):
            count, against, deeds, bargains = story_by_chance(seed)
            plain = [deed for deed in deeds if deed[0] in ("begin", "carry", "sweep")]
            plain = [deed[:2] + (True,) if len(deed) == 3 else deed for deed in plain]
            opened = [deed[1] for deed in plain if deed[0] == "begin"]
            for bargain in bargains:
                decided = decisions_after(count, against, plain + [("sweep",)], bargain)
                lead = leader_of(bargain, count)
                with self.subTest(seed=seed, bargain=bargain):
                    if bargain not in opened:
                        self.assertEqual(decided, [None] * count)
                    elif (lead, bargain) in against:
                        self.assertEqual(decided, ["off" if number == lead else None for number in range(count)])
                    elif any(pair[1] == bargain for pair in against):
                        self.assertEqual(decided, ["off"] * count)
                    else:
                        self.assertEqual(decided, ["bound"] * count)

    def test_letters_in_any_order(self):
        deeds = begun([HUGE]) + carried([18, 3, 3, 0, 19, 22, 21, 20, 5]) + [("sweep",)]
        self.assertEqual(decisions_after(20, [], deeds, HUGE), ["bound"] * 20)

    def test_it_is_the_sweep_that_binds(self):
        self.assertEqual(decisions_after(2, [], begun([3]), 3), [None, None])
        self.assertEqual(len(answers(2, [], begun([3]) + [("sweep",)])[1]), 3)


if __name__ == "__main__":
    unittest.main()
