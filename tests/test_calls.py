"""Promises 1 to 4, and what the interface says of the list of calls."""

import unittest

from tests.calls import (BEGIN, FIRST, HAND, HIGHEST, HIGHEST_X, LAST, LOWEST, NEW, OTHER_PLACES, P, flat, places_after,
                         replies)
from wordworths.machines import answers


def sizes(slot):
    """Calls that are answered 0 if the place has 3 states and 2 letters or more, and
    calls that are refused if it has no more than that."""
    return [(FIRST, slot, 2, 1), (HAND, slot, 1, 2, 2, 1)], [(FIRST, slot, 3, 1), (HAND, slot, 2, 0, 0, 1)]


class Begin(unittest.TestCase):
    def test_answers_0(self):
        self.assertEqual(answers([BEGIN]), [1, 0])

    def test_eight_places_with_nothing_in_them(self):
        for slot in range(8):
            self.assertEqual(replies((FIRST, slot, 0, 1), (LAST, slot, 0, 1), (HAND, slot, 0, 0, 0, 1)), [-1] * 3)
            self.assertEqual(replies((NEW, slot, 1, 1), (FIRST, slot, 0, 1)), [0, 0])
        self.assertEqual(places_after().machines, [None] * 8)

    def test_coming_again_empties_all_eight_places(self):
        filled = [(NEW, slot, 1, 1) for slot in range(8)]
        asked = [(FIRST, slot, 0, 1) for slot in range(8)]
        self.assertEqual(replies(*filled, *asked, (BEGIN,), *asked), [0] * 17 + [-1] * 8)
        self.assertEqual(places_after(*filled, (BEGIN,)).machines, [None] * 8)

    def test_twice_running(self):
        self.assertEqual(answers([BEGIN, BEGIN, BEGIN]), [1, 0, 1, 0, 1, 0])

    def test_a_place_can_be_filled_after_it(self):
        self.assertEqual(replies((NEW, 3, 2, 1), (BEGIN,), (NEW, 3, 1, 1), (FIRST, 3, 0, 1), (FIRST, 3, 1, 1)),
                         [0, 0, 0, 0, -1])


class New(unittest.TestCase):
    def test_answers_0(self):
        self.assertEqual(answers([BEGIN, NEW, 0, 1, 1]), [1, 0, 1, 0])

    def test_each_place(self):
        for slot in range(8):
            self.assertEqual(replies((NEW, slot, 3, 2)), [0])
            filled = [machine is not None for machine in places_after((NEW, slot, 3, 2)).machines]
            self.assertEqual(filled, [place == slot for place in range(8)])

    def test_another_place_is_refused(self):
        for slot in OTHER_PLACES:
            self.assertEqual(replies((NEW, slot, 1, 1)), [-1])
            self.assertEqual(places_after((NEW, slot, 1, 1)).machines, [None] * 8)

    def test_states_at_their_edges(self):
        for states in (1, 2, 8, 31, 32):
            self.assertEqual(replies((NEW, 0, states, 1)), [0])
        for states in (0, -1, 33, LOWEST, HIGHEST):
            self.assertEqual(replies((NEW, 0, states, 1)), [-1])

    def test_letters_at_their_edges(self):
        for letters in (1, 2, 3, 4):
            self.assertEqual(replies((NEW, 0, 1, letters)), [0])
        for letters in (0, -1, 5, LOWEST, HIGHEST):
            self.assertEqual(replies((NEW, 0, 1, letters)), [-1])

    def test_all_wrong_at_once_is_refused(self):
        self.assertEqual(replies((NEW, 8, 0, 5)), [-1])

    def test_so_many_states_and_letters(self):
        for states in range(1, 9):
            for letters in range(1, 4):
                self.assertEqual(replies((NEW, 5, states, letters),
                                         (FIRST, 5, states - 1, 1), (FIRST, 5, states, 1),
                                         (HAND, 5, letters - 1, 0, 0, 1), (HAND, 5, letters, 0, 0, 1)),
                                 [0, 0, -1, 0, -1])

    def test_all_numbers_are_0(self):
        machine = places_after((NEW, 2, 3, 2)).machine_at(2)
        self.assertEqual(machine.firsts, [0] * 3)
        self.assertEqual(machine.lasts, [0] * 3)
        self.assertEqual(machine.hands, [[[0] * 3] * 3] * 2)

    def test_takes_the_place_of_the_machine_that_was_there(self):
        old = [(NEW, 4, 3, 2), (FIRST, 4, 0, 5), (LAST, 4, 0, 6), (HAND, 4, 0, 0, 0, 7)]
        self.assertEqual(replies(*old, (NEW, 4, 2, 1), (FIRST, 4, 1, 1), (FIRST, 4, 2, 1), (HAND, 4, 1, 0, 0, 1)),
                         [0, 0, 0, 0, 0, 0, -1, -1])
        machine = places_after(*old, (NEW, 4, 2, 1)).machine_at(4)
        self.assertEqual((machine.firsts, machine.lasts, machine.hands), ([0, 0], [0, 0], [[[0, 0], [0, 0]]]))

    def test_refused_leaves_what_lies_there(self):
        filled = [(NEW, 7, 3, 2), (FIRST, 7, 0, 5), (LAST, 7, 1, 6), (HAND, 7, 1, 2, 0, 7)]
        held, beyond = sizes(7)
        for wrong in ((NEW, 7, 0, 2), (NEW, 7, 33, 2), (NEW, 7, 4, 0), (NEW, 7, 4, 5), (NEW, 7, LOWEST, 1),
                      (NEW, 7, HIGHEST, 1), (NEW, 7, 1, LOWEST), (NEW, 7, 1, HIGHEST), (NEW, -1, 1, 1), (NEW, 8, 1, 1)):
            self.assertEqual(replies(*filled, wrong, *held, *beyond), [0, 0, 0, 0, -1, 0, 0, -1, -1])
            machine = places_after(*filled, wrong).machine_at(7)
            self.assertEqual(machine.firsts, [5, 0, 0])
            self.assertEqual(machine.lasts, [0, 6, 0])
            self.assertEqual(machine.hands, [[[0] * 3] * 3, [[0] * 3, [0] * 3, [7, 0, 0]]])


class FirstAndLast(unittest.TestCase):
    def test_answer_0(self):
        for call in (FIRST, LAST):
            self.assertEqual(answers([BEGIN, NEW, 0, 1, 1, call, 0, 0, 1]), [1, 0, 1, 0, 1, 0])

    def test_that_state_has_that_number(self):
        machine = places_after((NEW, 1, 3, 1), (FIRST, 1, 1, 11), (LAST, 1, 2, 22)).machine_at(1)
        self.assertEqual(machine.firsts, [0, 11, 0])
        self.assertEqual(machine.lasts, [0, 0, 22])
        self.assertEqual(machine.hands, [[[0] * 3] * 3])

    def test_the_later_number_holds(self):
        machine = places_after((NEW, 1, 1, 1), (FIRST, 1, 0, 5), (FIRST, 1, 0, 0),
                               (LAST, 1, 0, 6), (LAST, 1, 0, 7)).machine_at(1)
        self.assertEqual((machine.firsts, machine.lasts), ([0], [7]))

    def test_only_the_machine_at_that_place(self):
        places = places_after((NEW, 0, 1, 1), (NEW, 1, 1, 1), (FIRST, 0, 0, 3), (LAST, 1, 0, 4))
        self.assertEqual((places.machine_at(0).firsts, places.machine_at(0).lasts), ([3], [0]))
        self.assertEqual((places.machine_at(1).firsts, places.machine_at(1).lasts), ([0], [4]))

    def test_no_machine_is_refused(self):
        all_but_6 = [(NEW, slot, 1, 1) for slot in range(8) if slot != 6]
        for call in (FIRST, LAST):
            self.assertEqual(replies(*all_but_6, (call, 6, 0, 1)), [0] * 7 + [-1])

    def test_another_place_is_refused(self):
        filled = [(NEW, slot, 1, 1) for slot in range(8)]
        for call in (FIRST, LAST):
            for slot in OTHER_PLACES:
                self.assertEqual(replies(*filled, (call, slot, 0, 1)), [0] * 8 + [-1])

    def test_no_such_state_is_refused(self):
        for call in (FIRST, LAST):
            for i in (0, 1, 2):
                self.assertEqual(replies((NEW, 0, 3, 1), (call, 0, i, 1)), [0, 0])
            for i in (-1, -3, 3, 4, LOWEST, HIGHEST):
                self.assertEqual(replies((NEW, 0, 3, 1), (call, 0, i, 1)), [0, -1])

    def test_a_number_from_p_on_is_refused(self):
        for call in (FIRST, LAST):
            for x in (0, 1, P - 1):
                self.assertEqual(replies((NEW, 0, 1, 1), (call, 0, 0, x)), [0, 0])
            for x in (P, P + 1, HIGHEST_X):
                self.assertEqual(replies((NEW, 0, 1, 1), (call, 0, 0, x)), [0, -1])

    def test_refused_changes_nothing(self):
        filled = [(NEW, 7, 2, 1), (FIRST, 7, 0, 5), (FIRST, 7, 1, 6), (LAST, 7, 0, 7), (LAST, 7, 1, 8)]
        for call in (FIRST, LAST):
            for wrong in ((call, 7, -1, 1), (call, 7, 2, 1), (call, 7, 1, P), (call, -1, 1, 1), (call, 0, 1, 1)):
                places = places_after(*filled, wrong)
                self.assertEqual(places.machines[:7], [None] * 7)
                machine = places.machine_at(7)
                self.assertEqual((machine.firsts, machine.lasts, machine.hands),
                                 ([5, 6], [7, 8], [[[0, 0], [0, 0]]]))

    def test_the_largest_number_is_kept_whole(self):
        machine = places_after((NEW, 0, 1, 1), (FIRST, 0, 0, P - 1), (LAST, 0, 0, P - 1)).machine_at(0)
        self.assertEqual((machine.firsts, machine.lasts), ([P - 1], [P - 1]))


class Hand(unittest.TestCase):
    def test_answers_0(self):
        self.assertEqual(answers([BEGIN, NEW, 0, 1, 1, HAND, 0, 0, 0, 0, 1]), [1, 0, 1, 0, 1, 0])

    def test_that_letter_hands_that_from_i_to_j(self):
        machine = places_after((NEW, 1, 3, 2), (HAND, 1, 1, 0, 2, 9), (HAND, 1, 0, 2, 1, P - 1)).machine_at(1)
        self.assertEqual(machine.hands, [[[0, 0, 0], [0, 0, 0], [0, P - 1, 0]],
                                         [[0, 0, 9], [0, 0, 0], [0, 0, 0]]])
        self.assertEqual((machine.firsts, machine.lasts), ([0] * 3, [0] * 3))

    def test_the_later_number_holds(self):
        machine = places_after((NEW, 1, 1, 1), (HAND, 1, 0, 0, 0, 5), (HAND, 1, 0, 0, 0, 2)).machine_at(1)
        self.assertEqual(machine.hands, [[[2]]])

    def test_no_machine_is_refused(self):
        all_but_2 = [(NEW, slot, 1, 1) for slot in range(8) if slot != 2]
        self.assertEqual(replies(*all_but_2, (HAND, 2, 0, 0, 0, 1)), [0] * 7 + [-1])

    def test_another_place_is_refused(self):
        filled = [(NEW, slot, 1, 1) for slot in range(8)]
        for slot in OTHER_PLACES:
            self.assertEqual(replies(*filled, (HAND, slot, 0, 0, 0, 1)), [0] * 8 + [-1])

    def test_no_such_state_is_refused(self):
        for i in range(3):
            for j in range(3):
                self.assertEqual(replies((NEW, 0, 3, 1), (HAND, 0, 0, i, j, 1)), [0, 0])
        for wrong in (-1, -3, 3, 4, LOWEST, HIGHEST):
            self.assertEqual(replies((NEW, 0, 3, 1), (HAND, 0, 0, wrong, 0, 1)), [0, -1])
            self.assertEqual(replies((NEW, 0, 3, 1), (HAND, 0, 0, 0, wrong, 1)), [0, -1])

    def test_no_such_letter_is_refused(self):
        # More states than letters, so that one isn't taken for the other.
        for a in (0, 1):
            self.assertEqual(replies((NEW, 0, 5, 2), (HAND, 0, a, 4, 4, 1)), [0, 0])
        for a in (-1, -2, 2, 3, LOWEST, HIGHEST):
            self.assertEqual(replies((NEW, 0, 5, 2), (HAND, 0, a, 0, 0, 1)), [0, -1])

    def test_a_number_from_p_on_is_refused(self):
        for x in (0, 1, P - 1):
            self.assertEqual(replies((NEW, 0, 1, 1), (HAND, 0, 0, 0, 0, x)), [0, 0])
        for x in (P, P + 1, HIGHEST_X):
            self.assertEqual(replies((NEW, 0, 1, 1), (HAND, 0, 0, 0, 0, x)), [0, -1])

    def test_refused_changes_nothing(self):
        filled = [(NEW, 7, 2, 1), (HAND, 7, 0, 0, 0, 5), (HAND, 7, 0, 0, 1, 6), (HAND, 7, 0, 1, 0, 7),
                  (HAND, 7, 0, 1, 1, 8)]
        for wrong in ((HAND, 7, 0, -1, 0, 1), (HAND, 7, 0, 0, -1, 1), (HAND, 7, -1, 0, 0, 1), (HAND, 7, 1, 0, 0, 1),
                      (HAND, 7, 0, 2, 0, 1), (HAND, 7, 0, 0, 2, 1), (HAND, 7, 0, 0, 0, P), (HAND, -1, 0, 0, 0, 1)):
            machine = places_after(*filled, wrong).machine_at(7)
            self.assertEqual((machine.firsts, machine.lasts, machine.hands), ([0, 0], [0, 0], [[[5, 6], [7, 8]]]))


class TheList(unittest.TestCase):
    LINE = flat([(BEGIN,), (NEW, 0, 2, 1), (FIRST, 0, 0, 1), (NEW, 8, 1, 1), (LAST, 0, 2, 1), (LAST, 0, 1, P - 1),
                 (HAND, 0, 0, 0, 1, 3), (HAND, 0, 1, 0, 1, 3), (BEGIN,), (HAND, 0, 0, 0, 1, 3), (NEW, 0, 1, 1)])
    ANSWERS = [1, 0, 1, 0, 1, 0, 1, -1, 1, -1, 1, 0, 1, 0, 1, -1, 1, 0, 1, -1, 1, 0]

    def test_calls_are_answered_in_order_behind_refused_ones_too(self):
        self.assertEqual(answers(self.LINE), self.ANSWERS)

    def test_what_is_handed_in_is_the_same_afterwards(self):
        calls = list(self.LINE)
        answers(calls)
        self.assertEqual(calls, self.LINE)

    def test_nothing_is_kept_from_one_time_to_the_next(self):
        calls = list(self.LINE)
        given = answers(calls)
        self.assertEqual(answers(calls), given)
        given.clear()
        self.assertEqual(answers(calls), self.ANSWERS)
        answers(flat([(BEGIN,)] + [(NEW, slot, 1, 1) for slot in range(8)]))
        self.assertEqual(replies((FIRST, 0, 0, 1)), [-1])

    def test_what_was_handed_in_may_be_changed_later(self):
        calls = list(self.LINE)
        given = answers(calls)
        calls.clear()
        self.assertEqual(given, self.ANSWERS)

    def test_the_answers_are_a_list_of_whole_numbers(self):
        given = answers(list(self.LINE))
        self.assertIs(type(given), list)
        self.assertEqual({type(number) for number in given}, {int})

    def test_sixty_calls(self):
        calls = [(BEGIN,), (NEW, 0, 8, 3)] + [(HAND, 0, k % 3, k % 8, (k + 1) % 8, k) for k in range(58)]
        self.assertEqual(answers(flat(calls)), [1, 0] * 60)

    def test_a_list_of_the_greatest_length(self):
        # Longer than Python lets calls lie within one another: it must be gone through by a loop.
        # assertTrue, since assertEqual would take hours to show how two such lists differ.
        self.assertTrue(answers([BEGIN] * 13000) == [1, 0] * 13000)


if __name__ == "__main__":
    unittest.main()
