"""A hall: its houses, the letters that lie there, and what each deed does."""

from oathhall.books import knows
from oathhall.house import House


def bargains_against(against, number):
    return [pair[1] for pair in against if pair[0] == number]


class Hall:
    def __init__(self, count, against):
        self.houses = [House(number, count, bargains_against(against, number)) for number in range(count)]
        self.letters = []
        # The numbers of the letters that a sweep has to carry. Without those that can bring
        # nothing any more, or a story with many sweeps would take too long.
        self.unspent = []

    def do(self, deed):
        word = deed[0]
        if word == "begin":
            return self.begin(deed[1], deed[2])
        if word == "carry":
            return self.carry(deed[1], deed[2])
        if word == "query":
            return self.query(deed[1], deed[2])
        if word == "stop":
            return self.stop(deed[1])
        if word == "wake":
            return self.wake(deed[1])
        return self.sweep()

    def begin(self, bargain, stays):
        house = self.houses[bargain % len(self.houses)]
        if not house.awake or knows(house.book, bargain):
            return None
        ahead = len(house.book)
        self.send_or_stop(house, house.begin(bargain), stays)
        return house.book[ahead:]

    def carry(self, which, stays):
        if which >= len(self.letters):
            return None
        letter = self.letters[which]
        house = self.houses[letter[1]]
        if not house.awake:
            return None
        ahead = len(house.book)
        self.send_or_stop(house, house.got(letter), stays)
        return house.book[ahead:]

    def query(self, number, bargain):
        sent = self.houses[number].query(bargain)
        self.send(sent)
        return len(sent) > 0

    def stop(self, number):
        house = self.houses[number]
        if not house.awake:
            return False
        house.stop()
        return True

    def wake(self, number):
        house = self.houses[number]
        if house.awake:
            return None
        ahead = len(house.book)
        self.send(house.wake())
        return house.book[ahead:]

    def sweep(self):
        written = []
        place = 0
        # Letters that are sent meanwhile come behind, so the end moves on.
        while place < len(self.unspent):
            which = self.unspent[place]
            lines = self.carry(which, True)
            if lines is not None:
                number = self.letters[which][1]
                written.extend([(number, line) for line in lines])
            place += 1
        self.unspent = [which for which in self.unspent if not self.is_spent_letter(which)]
        return written

    def is_spent_letter(self, which):
        letter = self.letters[which]
        return self.houses[letter[1]].is_spent(letter)

    def send_or_stop(self, house, sent, stays):
        if stays:
            self.send(sent)
        else:
            house.stop()

    def send(self, sent):
        first = len(self.letters)
        self.letters.extend(sent)
        self.unspent.extend(list(range(first, len(self.letters))))
