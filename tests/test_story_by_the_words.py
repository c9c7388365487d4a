"""Stories done a second time, slowly and by the document's words alone; both must tell the same."""

import unittest

from halls import story_by_chance
from oathhall.story import answers, awake_after, books_after, letters_after, waits


class Words:
    """All houses in plain dicts: no letter is ever left out and nothing is derived."""

    def __init__(self, count, against):
        self.count = count
        self.against = against
        self.books = {number: [] for number in range(count)}
        self.stopped = set()
        self.counted = set()
        self.letters = []

    def vote(self, house, bargain):
        said = [word for word, of in self.books[house] if of == bargain and word in ("open", "yes", "no")]
        return said[0] if said else None

    def decided(self, house, bargain):
        if ("bound", bargain) in self.books[house]:
            return "bound"
        if ("off", bargain) in self.books[house] or ("no", bargain) in self.books[house]:
            return "off"
        return None

    def unsure(self, house, bargain):
        return self.vote(house, bargain) == "yes" and self.decided(house, bargain) is None

    def has_line(self, house, bargain):
        return any(of == bargain for word, of in self.books[house])

    def all_others(self, house, bargain, word):
        return [(house, to, bargain, word) for to in range(self.count) if to != house]

    def opened(self, house, bargain):
        if (house, bargain) in self.against:
            return [("no", bargain)], []
        return [("open", bargain)], self.all_others(house, bargain, "ask")

    def asked(self, house, giver, bargain):
        if self.has_line(house, bargain):
            word = "no" if self.decided(house, bargain) == "off" else "yes"
            return [], [(house, giver, bargain, word)]
        word = "no" if (house, bargain) in self.against else "yes"
        return [(word, bargain)], [(house, giver, bargain, word)]

    def answered(self, house, giver, bargain, word):
        decided = self.decided(house, bargain)
        if decided is not None:
            return [], [(house, giver, bargain, decided)] if word == "yes" else []
        if word == "no":
            return [("off", bargain)], self.all_others(house, bargain, "off")
        self.counted.add((house, giver, bargain))
        if all((house, other, bargain) in self.counted for other in range(self.count) if other != house):
            return [("bound", bargain)], self.all_others(house, bargain, "bound")
        return [], []

    def queried(self, house, giver, bargain):
        if self.unsure(house, bargain):
            return [], []
        if self.decided(house, bargain) is not None:
            return [], [(house, giver, bargain, self.decided(house, bargain))]
        if self.vote(house, bargain) == "open":
            return [("off", bargain)], self.all_others(house, bargain, "off")
        return [("no", bargain)], [(house, giver, bargain, "off")]

    def got(self, letter):
        giver, house, bargain, word = letter
        if word == "ask":
            return self.asked(house, giver, bargain)
        if word in ("yes", "no"):
            return self.answered(house, giver, bargain, word)
        if word == "query":
            return self.queried(house, giver, bargain)
        return ([] if self.decided(house, bargain) else [(word, bargain)]), []

    def stop(self, house):
        self.stopped.add(house)
        self.counted = {entry for entry in self.counted if entry[0] != house}

    def done(self, house, lines, letters, stays):
        self.books[house].extend(lines)
        if stays:
            self.letters.extend(letters)
        else:
            self.stop(house)
        return lines

    def begin(self, bargain, stays):
        house = bargain % self.count
        if house in self.stopped or self.has_line(house, bargain):
            return None
        return self.done(house, *self.opened(house, bargain), stays)

    def carry(self, which, stays):
        if which >= len(self.letters) or self.letters[which][1] in self.stopped:
            return None
        return self.done(self.letters[which][1], *self.got(self.letters[which]), stays)

    def query(self, house, bargain):
        if house in self.stopped or not self.unsure(house, bargain):
            return False
        self.letters.extend(self.all_others(house, bargain, "query"))
        return True

    def stop_told(self, house):
        was_up = house not in self.stopped
        self.stop(house)
        return was_up

    def wake(self, house):
        if house not in self.stopped:
            return None
        self.stopped.remove(house)
        opened = [of for word, of in self.books[house] if word == "open" and self.decided(house, of) is None]
        letters = [letter for of in opened for letter in self.all_others(house, of, "off")]
        return self.done(house, [("off", of) for of in opened], letters, True)

    def sweep(self):
        written = []
        for which, letter in enumerate(self.letters):
            lines = self.carry(which, True)
            written.extend((letter[1], line) for line in lines or [])
        return written

    def do(self, deed):
        told = {"begin": self.begin, "carry": self.carry, "query": self.query, "stop": self.stop_told,
                "wake": self.wake, "sweep": self.sweep}
        return told[deed[0]](*deed[1:])

    def waited_for(self, house, bargain):
        up = [number for number in range(self.count) if number not in self.stopped]
        if house not in up or not all(self.unsure(number, bargain) for number in up):
            return []
        if any(to in up and of == bargain and word in ("bound", "off") for giver, to, of, word in self.letters):
            return []
        return sorted(self.stopped)


class TheSame(unittest.TestCase):
    def assert_same(self, seed, length):
        count, against, deeds, bargains = story_by_chance(seed, length)
        words = Words(count, against)
        with self.subTest(seed=seed):
            self.assertEqual(answers(count, against, deeds), [words.do(deed) for deed in deeds])
            self.assertEqual(books_after(count, against, deeds), list(words.books.values()))
            self.assertEqual(letters_after(count, against, deeds), words.letters)
            self.assertEqual(
                awake_after(count, against, deeds), [number not in words.stopped for number in range(count)]
            )
            return self.waits_told(words, against, deeds, bargains)

    def waits_told(self, words, against, deeds, bargains):
        told = 0
        for number in range(words.count):
            for bargain in bargains:
                waited_for = words.waited_for(number, bargain)
                self.assertEqual(waits(words.count, against, deeds, number, bargain), waited_for)
                told += len(waited_for)
        return told

    def test_short_stories(self):
        self.assertGreater(sum(self.assert_same(seed, 40) for seed in range(2000, 2400)), 10)

    def test_long_stories(self):
        for seed in range(3000, 3010):
            self.assert_same(seed, 250)


if __name__ == "__main__":
    unittest.main()
