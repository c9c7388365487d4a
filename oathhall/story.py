"""Stories: deeds done one after the other in a hall, and what is there after them."""

from oathhall.books import decision_in, is_unsure
from oathhall.hall import Hall


def hall_after(count, against, deeds):
    hall = Hall(count, against)
    for deed in deeds:
        hall.do(deed)
    return hall


def answers(count, against, deeds):
    hall = Hall(count, against)
    return [hall.do(deed) for deed in deeds]


def books_after(count, against, deeds):
    return [house.book for house in hall_after(count, against, deeds).houses]


def letters_after(count, against, deeds):
    return hall_after(count, against, deeds).letters


def awake_after(count, against, deeds):
    return [house.awake for house in hall_after(count, against, deeds).houses]


def decisions_after(count, against, deeds, bargain):
    return [decision_in(house.book, bargain) for house in hall_after(count, against, deeds).houses]


def is_up_and_unsure(house, bargain):
    return house.awake and is_unsure(house.book, bargain)


def tells_one_up(hall, letter, bargain):
    return letter[2] == bargain and letter[3] in ("bound", "off") and hall.houses[letter[1]].awake


def can_be_told(hall, bargain):
    # A house that is up and not unsure answers a query; one that is unsure is silent.
    if any([house.awake and not is_unsure(house.book, bargain) for house in hall.houses]):
        return True
    return any([tells_one_up(hall, letter, bargain) for letter in hall.letters])


def waits(count, against, deeds, number, bargain):
    hall = hall_after(count, against, deeds)
    if not is_up_and_unsure(hall.houses[number], bargain) or can_be_told(hall, bargain):
        return []
    return [house.number for house in hall.houses if not house.awake]
