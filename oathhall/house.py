"""A house: what it writes and which letters it sends."""

from oathhall.books import decision_in, is_unsure, knows, left_open


class House:
    def __init__(self, number, count, against):
        self.number = number
        self.others = [other for other in range(count) if other != number]
        # A copy, so that who handed the list in can change it without a say here.
        self.against = list(against)
        self.book = []
        self.awake = True
        self.forget()

    def forget(self):
        # By bargain the houses whose yes was counted, a dict so that each counts once.
        self.counted = {}
        # By bargain its lines, as far as the book was read: a walk over the whole book
        # for each letter would be slow in a story with many sweeps.
        self.pages = {}
        self.lines_read = 0

    def begin(self, bargain):
        if bargain in self.against:
            self.write("no", bargain)
            return []
        self.write("open", bargain)
        return self.to_others(bargain, "ask")

    def got(self, letter):
        giver = letter[0]
        bargain = letter[2]
        word = letter[3]
        if word == "ask":
            return self.got_ask(giver, bargain)
        if word == "query":
            return self.got_query(giver, bargain)
        if word in ("yes", "no"):
            return self.got_vote(giver, bargain, word)
        return self.got_decision(bargain, word)

    def query(self, bargain):
        if not self.awake or not is_unsure(self.page(bargain), bargain):
            return []
        return self.to_others(bargain, "query")

    def stop(self):
        self.awake = False
        self.forget()

    def wake(self):
        self.awake = True
        # The yes counted before the stop are lost, so what was opened can't be bound any more.
        undecided = left_open(self.book)
        sent = []
        for bargain in undecided:
            sent.extend(self.decide(bargain, "off"))
        return sent

    def is_spent(self, letter):
        # What is decided stays decided, so one more no, bound or off of it brings nothing, ever.
        if letter[3] not in ("no", "bound", "off"):
            return False
        return self.decision(letter[2]) is not None

    def got_ask(self, giver, bargain):
        if not knows(self.page(bargain), bargain):
            self.write("no" if bargain in self.against else "yes", bargain)
        # Asked again, it answers again: the first answer may never have come.
        if self.decision(bargain) == "off":
            return self.to_one(giver, bargain, "no")
        return self.to_one(giver, bargain, "yes")

    def got_vote(self, giver, bargain, word):
        decided = self.decision(bargain)
        if decided is not None:
            # Who said yes may still be unsure; who said no has it off already.
            return self.to_one(giver, bargain, decided) if word == "yes" else []
        if word == "no":
            return self.decide(bargain, "off")
        givers = self.counted.setdefault(bargain, {})
        givers[giver] = True
        if len(givers) < len(self.others):
            return []
        return self.decide(bargain, "bound")

    def got_decision(self, bargain, word):
        if self.decision(bargain) is None:
            self.write(word, bargain)
        return []

    def got_query(self, giver, bargain):
        if is_unsure(self.page(bargain), bargain):
            return []
        decided = self.decision(bargain)
        if decided is not None:
            return self.to_one(giver, bargain, decided)
        if knows(self.page(bargain), bargain):
            return self.decide(bargain, "off")
        # With its no in the book it can never say yes later, so off is safe to tell.
        self.write("no", bargain)
        return self.to_one(giver, bargain, "off")

    def decide(self, bargain, word):
        self.write(word, bargain)
        return self.to_others(bargain, word)

    def decision(self, bargain):
        return decision_in(self.page(bargain), bargain)

    def page(self, bargain):
        while self.lines_read < len(self.book):
            line = self.book[self.lines_read]
            self.pages.setdefault(line[1], []).append(line)
            self.lines_read += 1
        return self.pages.get(bargain, [])

    def write(self, word, bargain):
        self.book.append((word, bargain))

    def to_one(self, other, bargain, word):
        return [(self.number, other, bargain, word)]

    def to_others(self, bargain, word):
        return [(self.number, other, bargain, word) for other in self.others]


def got_all(house, letters):
    return [house.got(letter) for letter in letters]
