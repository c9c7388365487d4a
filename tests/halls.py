"""What several tests share."""

from oathhall.house import House

HUGE = 10 ** 99 + 7


def book_of(words, bargain):
    return [(word, bargain) for word in words]


def to_others(number, count, bargain, word):
    return [(number, other, bargain, word) for other in range(count) if other != number]


def leader_of(bargain, count):
    return bargain % count


def opened_house(bargain, count):
    """A house that leads the bargain, has opened it and has counted nothing so far."""
    house = House(leader_of(bargain, count), count, [])
    house.begin(bargain)
    return house


def bound_leader(bargain, count):
    house = opened_house(bargain, count)
    for giver in range(count):
        if giver != leader_of(bargain, count):
            house.got((giver, leader_of(bargain, count), bargain, "yes"))
    return house


def off_leader(bargain, count):
    house = opened_house(bargain, count)
    lead = leader_of(bargain, count)
    house.got(((lead + 1) % count, lead, bargain, "no"))
    return house


def asked_house(number, count, bargain, against=()):
    """A house that has got ask from the one that leads."""
    house = House(number, count, list(against))
    house.got((leader_of(bargain, count), number, bargain, "ask"))
    return house
