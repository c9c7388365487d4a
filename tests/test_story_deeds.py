"""Point 12: each deed with each of its answers."""

import unittest

from halls import HUGE, begun, carried, to_others
from oathhall.story import answers, awake_after, books_after, letters_after


def last_answer(count, against, deeds):
    return answers(count, against, deeds)[-1]


class Unchanged(unittest.TestCase):
    def assert_nothing_done(self, count, against, ahead, deed):
        deeds = ahead + [deed]
        self.assertEqual(books_after(count, against, deeds), books_after(count, against, ahead))
        self.assertEqual(letters_after(count, against, deeds), letters_after(count, against, ahead))
        self.assertEqual(awake_after(count, against, deeds), awake_after(count, against, ahead))


class Begin(Unchanged):
    def test_opens(self):
        self.assertEqual(answers(3, [], begun([4])), [[("open", 4)]])
        self.assertEqual(books_after(3, [], begun([4])), [[], [("open", 4)], []])
        self.assertEqual(letters_after(3, [], begun([4])), [(1, 0, 4, "ask"), (1, 2, 4, "ask")])

    def test_bargain_nought(self):
        self.assertEqual(answers(2, [], begun([0])), [[("open", 0)]])
        self.assertEqual(letters_after(2, [], begun([0])), [(0, 1, 0, "ask")])

    def test_several_bargains_of_one_house_and_of_others(self):
        deeds = begun([1, 4, 2])
        self.assertEqual(answers(3, [], deeds), [[("open", 1)], [("open", 4)], [("open", 2)]])
        self.assertEqual(books_after(3, [], deeds), [[], [("open", 1), ("open", 4)], [("open", 2)]])
        sent = to_others(1, 3, 1, "ask") + to_others(1, 3, 4, "ask") + to_others(2, 3, 2, "ask")
        self.assertEqual(letters_after(3, [], deeds), sent)

    def test_against(self):
        self.assertEqual(answers(3, [(1, 4)], begun([4])), [[("no", 4)]])
        self.assertEqual(letters_after(3, [(1, 4)], begun([4])), [])
        self.assertEqual(awake_after(3, [(1, 4)], begun([4])), [True, True, True])

    def test_against_of_another_house_or_bargain(self):
        against = [(0, 4), (2, 4), (1, 7), (1, 1)]
        self.assertEqual(answers(3, against, begun([4])), [[("open", 4)]])

    def test_stopped(self):
        for stays in (True, False):
            ahead = [("stop", 1)]
            self.assertIsNone(last_answer(3, [], ahead + [("begin", 4, stays)]))
            self.assert_nothing_done(3, [], ahead, ("begin", 4, stays))

    def test_another_house_stopped(self):
        deeds = [("stop", 0), ("begin", 4, True)]
        self.assertEqual(answers(3, [], deeds), [True, [("open", 4)]])
        self.assertEqual(letters_after(3, [], deeds), to_others(1, 3, 4, "ask"))

    def test_has_a_line(self):
        for against in ([], [(1, 4)]):
            for stays in (True, False):
                self.assertIsNone(last_answer(3, against, begun([4]) + [("begin", 4, stays)]))
                self.assert_nothing_done(3, against, begun([4]), ("begin", 4, stays))

    def test_has_a_line_once_decided(self):
        ahead = begun([4]) + [("sweep",)]
        self.assertIsNone(last_answer(3, [], ahead + begun([4])))
        self.assert_nothing_done(3, [], ahead, ("begin", 4, True))

    def test_a_hundred_figures(self):
        lead = HUGE % 20
        self.assertEqual(answers(20, [], begun([HUGE])), [[("open", HUGE)]])
        self.assertEqual(letters_after(20, [], begun([HUGE])), to_others(lead, 20, HUGE, "ask"))


class Carry(Unchanged):
    def test_ask(self):
        deeds = begun([4]) + carried([1])
        self.assertEqual(last_answer(3, [], deeds), [("yes", 4)])
        self.assertEqual(letters_after(3, [], deeds)[2:], [(2, 1, 4, "yes")])

    def test_ask_of_who_is_against(self):
        deeds = begun([4]) + carried([1])
        self.assertEqual(last_answer(3, [(2, 4)], deeds), [("no", 4)])
        self.assertEqual(letters_after(3, [(2, 4)], deeds)[2:], [(2, 1, 4, "no")])

    def test_ask_again(self):
        deeds = begun([4]) + carried([1, 1, 1])
        self.assertEqual(answers(3, [], deeds), [[("open", 4)], [("yes", 4)], [], []])
        self.assertEqual(letters_after(3, [], deeds)[2:], [(2, 1, 4, "yes")] * 3)

    def test_yes_until_bound(self):
        deeds = begun([4]) + carried([0, 1, 2, 3])
        self.assertEqual(answers(3, [], deeds)[1:], [[("yes", 4)], [("yes", 4)], [], [("bound", 4)]])
        self.assertEqual(letters_after(3, [], deeds)[4:], to_others(1, 3, 4, "bound"))

    def test_the_same_yes_again_counts_once(self):
        deeds = begun([4]) + carried([0, 2, 2, 2])
        self.assertEqual(answers(3, [], deeds)[1:], [[("yes", 4)], [], [], []])
        self.assertEqual(len(letters_after(3, [], deeds)), 3)

    def test_yes_once_bound(self):
        deeds = begun([4]) + carried([0, 1, 2, 3, 2])
        self.assertEqual(last_answer(3, [], deeds), [])
        self.assertEqual(letters_after(3, [], deeds)[6:], [(1, 0, 4, "bound")])

    def test_no(self):
        deeds = begun([4]) + carried([0, 2])
        self.assertEqual(last_answer(3, [(0, 4)], deeds), [("off", 4)])
        self.assertEqual(letters_after(3, [(0, 4)], deeds)[3:], to_others(1, 3, 4, "off"))

    def test_no_again(self):
        deeds = begun([4]) + carried([0, 2])
        self.assertEqual(last_answer(3, [(0, 4)], deeds + carried([2])), [])
        self.assert_nothing_done(3, [(0, 4)], deeds, ("carry", 2, True))

    def test_bound_and_off(self):
        for against, word in (([], "bound"), ([(2, 4)], "off")):
            deeds = begun([4]) + carried([0, 1, 2, 3, 4])
            self.assertEqual(last_answer(3, against, deeds), [(word, 4)])
            self.assertEqual(last_answer(3, against, deeds + carried([4])), [])
            self.assert_nothing_done(3, against, deeds, ("carry", 4, True))

    def test_off_without_a_line(self):
        deeds = [("begin", 4, False), ("wake", 1)] + carried([0])
        self.assertEqual(last_answer(3, [], deeds), [("off", 4)])
        self.assertEqual(books_after(3, [], deeds), [[("off", 4)], [("open", 4), ("off", 4)], []])

    def test_query_to_each_sort_of_house(self):
        asked = begun([4]) + carried([0]) + [("query", 0, 4)]
        # Letter 3 goes to the house that leads and has it open, letter 4 to one without a line.
        self.assertEqual(letters_after(3, [], asked)[3:], to_others(0, 3, 4, "query"))
        self.assertEqual(last_answer(3, [], asked + carried([3])), [("off", 4)])
        self.assertEqual(letters_after(3, [], asked + carried([3]))[5:], to_others(1, 3, 4, "off"))
        self.assertEqual(last_answer(3, [], asked + carried([4])), [("no", 4)])
        self.assertEqual(letters_after(3, [], asked + carried([4]))[5:], [(2, 0, 4, "off")])
        self.assertEqual(last_answer(3, [], asked + carried([1, 4])), [])
        self.assertEqual(letters_after(3, [], asked + carried([1, 4]))[5:], [(2, 1, 4, "yes")])

    def test_query_where_it_is_decided(self):
        deeds = begun([4]) + carried([0, 1, 2, 3]) + [("query", 0, 4)] + carried([6])
        self.assertEqual(last_answer(3, [], deeds), [])
        self.assertEqual(letters_after(3, [], deeds)[8:], [(1, 0, 4, "bound")])

    def test_a_letter_not_there_yet(self):
        for ahead in ([], begun([4])):
            for which in (2, 3, 10 ** 30):
                for stays in (True, False):
                    self.assertIsNone(last_answer(3, [], ahead + [("carry", which, stays)]))
                    self.assert_nothing_done(3, [], ahead, ("carry", which, stays))
        self.assertIsNone(last_answer(3, [], carried([0])))

    def test_the_last_letter_is_there(self):
        self.assertEqual(last_answer(2, [], begun([1]) + carried([0])), [("yes", 1)])
        self.assertIsNone(last_answer(2, [], begun([1]) + carried([1])))

    def test_its_house_is_stopped(self):
        ahead = begun([4]) + [("stop", 0)]
        for stays in (True, False):
            self.assertIsNone(last_answer(3, [], ahead + [("carry", 0, stays)]))
            self.assert_nothing_done(3, [], ahead, ("carry", 0, stays))

    def test_its_giver_is_stopped(self):
        deeds = begun([4]) + [("stop", 1)] + carried([0])
        self.assertEqual(last_answer(3, [], deeds), [("yes", 4)])

    def test_a_letter_missed_can_still_come(self):
        deeds = begun([4]) + [("stop", 0)] + carried([0]) + [("wake", 0)] + carried([0])
        self.assertEqual(answers(3, [], deeds)[1:], [True, None, [], [("yes", 4)]])


class Query(Unchanged):
    def test_unsure(self):
        deeds = begun([4]) + carried([0]) + [("query", 0, 4)]
        self.assertIs(last_answer(3, [], deeds), True)
        self.assertEqual(letters_after(3, [], deeds)[3:], [(0, 1, 4, "query"), (0, 2, 4, "query")])
        self.assertEqual(books_after(3, [], deeds), books_after(3, [], deeds[:-1]))

    def test_again(self):
        deeds = begun([4]) + carried([0]) + [("query", 0, 4)] * 2
        self.assertIs(last_answer(3, [], deeds), True)
        self.assertEqual(letters_after(3, [], deeds)[3:], to_others(0, 3, 4, "query") * 2)

    def test_not_unsure(self):
        bound = begun([4]) + carried([0, 1, 2, 3, 4])
        for ahead, number in (([], 0), (begun([4]), 1), (begun([4]), 2), (bound, 0), (bound, 1)):
            self.assertIs(last_answer(3, [], ahead + [("query", number, 4)]), False)
            self.assert_nothing_done(3, [], ahead, ("query", number, 4))

    def test_said_no(self):
        ahead = begun([4]) + carried([0])
        self.assertIs(last_answer(3, [(0, 4)], ahead + [("query", 0, 4)]), False)
        self.assert_nothing_done(3, [(0, 4)], ahead, ("query", 0, 4))

    def test_of_another_bargain(self):
        ahead = begun([4]) + carried([0])
        self.assertIs(last_answer(3, [], ahead + [("query", 0, 7)]), False)
        self.assert_nothing_done(3, [], ahead, ("query", 0, 7))

    def test_stopped(self):
        ahead = begun([4]) + carried([0]) + [("stop", 0)]
        self.assertIs(last_answer(3, [], ahead + [("query", 0, 4)]), False)
        self.assert_nothing_done(3, [], ahead, ("query", 0, 4))

    def test_come_up_it_is_still_unsure(self):
        deeds = begun([4]) + carried([0]) + [("stop", 0), ("wake", 0), ("query", 0, 4)]
        self.assertEqual(answers(3, [], deeds)[2:], [True, [], True])


class StopAndWake(Unchanged):
    def test_stop(self):
        self.assertEqual(answers(2, [], [("stop", 1)]), [True])
        self.assertEqual(awake_after(2, [], [("stop", 1)]), [True, False])

    def test_stop_twice(self):
        answered = answers(2, [], [("stop", 1), ("stop", 1), ("stop", 0)])
        self.assertEqual(answered, [True, False, True])
        self.assertIs(answered[1], False)
        self.assert_nothing_done(2, [], [("stop", 1)], ("stop", 1))

    def test_stop_after_coming_up(self):
        self.assertEqual(answers(2, [], [("stop", 1), ("wake", 1), ("stop", 1)]), [True, [], True])

    def test_counted_is_forgotten(self):
        # One yes was counted ahead of the stop; the bargain is off at once when the house comes up.
        deeds = begun([4]) + carried([0, 1, 2]) + [("stop", 1), ("wake", 1)] + carried([3])
        self.assertEqual(answers(3, [], deeds)[4:], [True, [("off", 4)], []])
        self.assertEqual(letters_after(3, [], deeds)[4:], to_others(1, 3, 4, "off") + [(1, 2, 4, "off")])

    def test_wake_of_a_house_that_is_up(self):
        for ahead in ([], begun([4]), begun([4]) + [("stop", 0)]):
            self.assertIsNone(last_answer(3, [], ahead + [("wake", 1)]))
            self.assert_nothing_done(3, [], ahead, ("wake", 1))

    def test_wake_with_nothing_open(self):
        self.assertEqual(answers(3, [], [("stop", 1), ("wake", 1)]), [True, []])
        self.assertEqual(awake_after(3, [], [("stop", 1), ("wake", 1)]), [True, True, True])

    def test_wake_with_bargains_open(self):
        # Opened in the order 7, 1, 10, 4; of these 1 is bound ahead of the stop, and 13 was refused.
        deeds = begun([7, 1, 13, 10, 4]) + carried([2, 3, 8, 9]) + [("stop", 1), ("wake", 1)]
        answered = answers(3, [(1, 13)], deeds)
        self.assertEqual(answered[8], [("bound", 1)])
        self.assertEqual(answered[10], [("off", 7), ("off", 10), ("off", 4)])
        sent = to_others(1, 3, 7, "off") + to_others(1, 3, 10, "off") + to_others(1, 3, 4, "off")
        self.assertEqual(letters_after(3, [(1, 13)], deeds)[-6:], sent)
        self.assertEqual(awake_after(3, [(1, 13)], deeds), [True, True, True])

    def test_wake_twice(self):
        deeds = begun([4]) + [("stop", 1), ("wake", 1), ("wake", 1), ("stop", 1), ("wake", 1)]
        self.assertEqual(answers(3, [], deeds)[1:], [True, [("off", 4)], None, True, []])


class Sweep(Unchanged):
    def test_nothing_to_carry(self):
        self.assertEqual(answers(2, [], [("sweep",)]), [[]])

    def test_letters_that_are_sent_meanwhile_come_too(self):
        deeds = begun([4]) + [("sweep",)]
        written = [(0, ("yes", 4)), (2, ("yes", 4)), (1, ("bound", 4)), (0, ("bound", 4)), (2, ("bound", 4))]
        self.assertEqual(last_answer(3, [], deeds), written)
        sent = [(0, 1, 4, "yes"), (2, 1, 4, "yes"), (1, 0, 4, "bound"), (1, 2, 4, "bound")]
        self.assertEqual(letters_after(3, [], deeds)[2:], sent)

    def test_bargains_go_side_by_side(self):
        written = [(1, ("yes", 0)), (0, ("yes", 1)), (0, ("bound", 0)), (1, ("bound", 1))]
        written.extend([(1, ("bound", 0)), (0, ("bound", 1))])
        self.assertEqual(last_answer(2, [], begun([0, 1]) + [("sweep",)]), written)

    def test_with_one_against(self):
        deeds = begun([4]) + [("sweep",)]
        written = [(0, ("no", 4)), (2, ("yes", 4)), (1, ("off", 4)), (2, ("off", 4))]
        self.assertEqual(last_answer(3, [(0, 4)], deeds), written)

    def test_a_house_stopped_gets_none(self):
        deeds = begun([4]) + [("stop", 2), ("sweep",)]
        self.assertEqual(last_answer(3, [], deeds), [(0, ("yes", 4))])
        self.assertEqual(letters_after(3, [], deeds)[2:], [(0, 1, 4, "yes")])
        self.assertEqual(awake_after(3, [], deeds), [True, True, False])

    def test_the_house_that_leads_stopped(self):
        deeds = begun([4]) + [("stop", 1), ("sweep",)]
        self.assertEqual(last_answer(3, [], deeds), [(0, ("yes", 4)), (2, ("yes", 4))])
        self.assertEqual(letters_after(3, [], deeds)[2:], [(0, 1, 4, "yes"), (2, 1, 4, "yes")])

    def test_who_missed_a_sweep_gets_its_letters_in_the_next(self):
        deeds = begun([4]) + carried([0, 1, 2, 3]) + [("stop", 0), ("sweep",), ("wake", 0), ("sweep",)]
        answered = answers(3, [], deeds)
        self.assertEqual(answered[6], [(2, ("bound", 4))])
        self.assertEqual(answered[8], [(0, ("bound", 4))])

    def test_again_all_are_carried_once_more(self):
        deeds = begun([1]) + [("sweep",)]
        first = [(1, 0, 1, "ask"), (0, 1, 1, "yes"), (1, 0, 1, "bound")]
        # The ask brings a new yes; the old yes and the new one each bring what is decided.
        second = [(0, 1, 1, "yes"), (1, 0, 1, "bound"), (1, 0, 1, "bound")]
        third = [(0, 1, 1, "yes")] + [(1, 0, 1, "bound")] * 3
        self.assertEqual(letters_after(2, [], deeds), first)
        self.assertEqual(answers(2, [], deeds + [("sweep",)])[2], [])
        self.assertEqual(letters_after(2, [], deeds + [("sweep",)]), first + second)
        self.assertEqual(letters_after(2, [], deeds + [("sweep",)] * 2), first + second + third)

    def test_carry_after_a_sweep_keeps_the_numbers(self):
        deeds = begun([1]) + [("sweep",), ("sweep",)] + carried([2, 1, 0])
        self.assertEqual(answers(2, [], deeds)[3:], [[], [], []])
        self.assertEqual(letters_after(2, [], deeds)[6:], [(1, 0, 1, "bound"), (0, 1, 1, "yes")])

    def test_queries_are_carried_too(self):
        # The query comes to the house that leads ahead of the second yes.
        deeds = begun([4]) + carried([0]) + [("query", 0, 4), ("sweep",)]
        written = [(2, ("yes", 4)), (1, ("off", 4)), (0, ("off", 4)), (2, ("off", 4))]
        self.assertEqual(last_answer(3, [], deeds), written)


if __name__ == "__main__":
    unittest.main()
