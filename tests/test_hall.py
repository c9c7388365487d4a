"""What a hall spares a sweep: letters that can bring nothing any more."""

import unittest

from halls import begun, carried
from oathhall.hall import Hall


def hall_with(count, against, deeds):
    hall = Hall(count, against)
    for deed in deeds:
        hall.do(deed)
    return hall


def words_to_carry(hall):
    return [hall.letters[which][3] for which in hall.unspent]


class Spared(unittest.TestCase):
    def test_all_letters_are_to_be_carried_at_first(self):
        hall = hall_with(3, [], begun([4]) + carried([0, 1, 2, 3]))
        self.assertEqual(words_to_carry(hall), ["ask", "ask", "yes", "yes", "bound", "bound"])

    def test_bound_is_not_carried_again(self):
        hall = hall_with(3, [], begun([4]) + [("sweep",)])
        self.assertEqual(words_to_carry(hall), ["ask", "ask", "yes", "yes"])

    def test_no_and_off_are_not_carried_again(self):
        hall = hall_with(3, [(2, 4)], begun([4]) + [("sweep",)])
        self.assertEqual(words_to_carry(hall), ["ask", "ask", "yes"])
        self.assertEqual([letter[3] for letter in hall.letters], ["ask", "ask", "yes", "no", "off", "off"])

    def test_what_a_stopped_house_missed_is_kept(self):
        hall = hall_with(3, [], begun([4]) + carried([0, 1, 2, 3]) + [("stop", 0), ("sweep",)])
        self.assertEqual(words_to_carry(hall).count("bound"), 2)
        self.assertEqual([hall.letters[which][1] for which in hall.unspent if hall.letters[which][3] == "bound"], [0, 0])

    def test_a_letter_spared_still_has_its_number(self):
        hall = hall_with(3, [], begun([4]) + [("sweep",)])
        self.assertEqual(hall.letters[4], (1, 0, 4, "bound"))
        self.assertEqual(hall.do(("carry", 4, False)), [])
        self.assertEqual([house.awake for house in hall.houses], [False, True, True])


if __name__ == "__main__":
    unittest.main()
