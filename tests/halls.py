"""What several tests share."""

import random

from oathhall.house import House

HUGE = 10 ** 99 + 7


def book_of(words, bargain):
    return [(word, bargain) for word in words]


def to_others(number, count, bargain, word):
    return [(number, other, bargain, word) for other in range(count) if other != number]


def leader_of(bargain, count):
    return bargain % count


def opened_house(bargain, count):
    """A house that leads the bargain, has opened it and has counted nothing so far."""
    house = House(leader_of(bargain, count), count, [])
    house.begin(bargain)
    return house


def bound_leader(bargain, count):
    house = opened_house(bargain, count)
    for giver in range(count):
        if giver != leader_of(bargain, count):
            house.got((giver, leader_of(bargain, count), bargain, "yes"))
    return house


def off_leader(bargain, count):
    house = opened_house(bargain, count)
    lead = leader_of(bargain, count)
    house.got(((lead + 1) % count, lead, bargain, "no"))
    return house


def asked_house(number, count, bargain, against=()):
    """A house that has got ask from the one that leads."""
    house = House(number, count, list(against))
    house.got((leader_of(bargain, count), number, bargain, "ask"))
    return house


def begun(bargains):
    return [("begin", bargain, True) for bargain in bargains]


def carried(numbers):
    return [("carry", which, True) for which in numbers]


def each(word, count):
    """The same deed, stop or wake, for each house."""
    return [(word, number) for number in range(count)]


def deed_by_chance(chance, count, bargains, words, stays):
    word = chance.choice(words)
    if word == "begin":
        return ("begin", chance.choice(bargains), chance.random() < stays)
    if word == "carry":
        return ("carry", chance.randrange(chance.choice((2, 4, 12)) * count), chance.random() < stays)
    if word == "query":
        return ("query", chance.randrange(count), chance.choice(bargains))
    if word == "sweep":
        return ("sweep",)
    return (word, chance.randrange(count))


def story_by_chance(seed, length=60):
    """A story told by its seed alone: the count, who is against what, the deeds, and the bargains in them."""
    chance = random.Random(seed)
    count = chance.choice((2, 2, 3, 3, 4, 5, 7))
    bargains = [chance.choice((0, 1, 40, HUGE)) + step for step in range(chance.randrange(1, 5))]
    against = []
    for number in range(count):
        against.extend((number, bargain) for bargain in bargains if chance.random() < 0.12)
    words = ["begin"] * 4 + ["carry"] * 14 + ["sweep"]
    # Some stories are calm, so that bargains come to be bound; in others houses stop at any time.
    unrest = chance.choice((0, 1, 3))
    words.extend(["query", "stop", "wake"] * unrest)
    stays = 1 - unrest / 20
    deeds = [deed_by_chance(chance, count, bargains, words, stays) for step in range(chance.randrange(length + 1))]
    return count, against, deeds, sorted(set(bargains))
