"""Promise 6: make."""

import random
import unittest

from tests import plain
from tests.calls import (ADDED, APART, BEHIND, FIRST, HAND, HIGHEST, LAST, LOWEST, MAKE, MULTIPLIED, NEW, OTHER_PLACES, P,
                         TURNED, built, chain, constant, nothing_at, numbers_at, places_after, replies, reply, worth, worths)

KINDS = (ADDED, MULTIPLIED, BEHIND, TURNED)
# Two and three states, and all numbers different, so that an exchange of the two shows.
ONE = [2, 3], [5, 7], [[[11, 13], [17, 19]], [[23, 29], [31, 37]]]
OTHER = [41, 43, 47], [53, 0, 61], [[[67, 0, 71], [0, 73, 0], [79, 0, 0]], [[0, 83, 0], [0, 0, 89], [97, 0, 101]]]
BOTH = built(0, ONE) + built(1, OTHER)
STATES = {(0, 1): (5, 6, 5, 2), (1, 0): (5, 6, 5, 3), (0, 0): (4, 4, 4, 2), (1, 1): (6, 9, 6, 3)}
SAMPLES = {0: ONE, 1: OTHER}
WORDS = [(), (0,), (1,), (0, 1), (1, 0), (1, 1, 0), (0, 1, 1, 0, 1)]


def of_states(slot, states, letters=1):
    return [(NEW, slot, states, letters)]


def of_32_states(slot, letters=1):
    return [(NEW, slot, 8, letters), (NEW, 7, 4, letters), (MAKE, MULTIPLIED, slot, 7, slot)]


def told(kind, one, other, word):
    """The worth that a word has of what's made, by the worths that it and its parts have of the two."""
    if kind == ADDED:
        return (plain.worth(one, word) + plain.worth(other, word)) % P
    if kind == MULTIPLIED:
        return plain.worth(one, word) * plain.worth(other, word) % P
    if kind == BEHIND:
        return sum(plain.worth(one, word[:k]) * plain.worth(other, word[k:]) for k in range(len(word) + 1)) % P
    return plain.worth(one, word[::-1])


class Made(unittest.TestCase):
    def test_how_many_states(self):
        for (i, j), states in STATES.items():
            for kind in KINDS:
                self.assertEqual(reply(*BOTH, (MAKE, kind, i, j, 2)), [states[kind]])

    def test_what_words_are_worth(self):
        for i, j in STATES:
            for kind in KINDS:
                self.assertEqual(replies(*BOTH, (MAKE, kind, i, j, 2), *worths(2, WORDS))[-len(WORDS):],
                                 [told(kind, SAMPLES[i], SAMPLES[j], word) for word in WORDS])

    def test_the_states_order_and_all_numbers(self):
        for i, j in STATES:
            for kind in KINDS:
                self.assertEqual(numbers_at(places_after(*BOTH, (MAKE, kind, i, j, 2)), 2),
                                 plain.MADE[kind](SAMPLES[i], SAMPLES[j]))

    def test_added_written_out(self):
        self.assertEqual(numbers_at(places_after(*BOTH, (MAKE, ADDED, 0, 1, 2)), 2), (
            [2, 3, 41, 43, 47], [5, 7, 53, 0, 61],
            [[[11, 13, 0, 0, 0], [17, 19, 0, 0, 0], [0, 0, 67, 0, 71], [0, 0, 0, 73, 0], [0, 0, 79, 0, 0]],
             [[23, 29, 0, 0, 0], [31, 37, 0, 0, 0], [0, 0, 0, 83, 0], [0, 0, 0, 0, 89], [0, 0, 97, 0, 101]]]))

    def test_multiplied_written_out(self):
        calls = built(0, ([2, 3], [5, 7], [[[1, 2], [3, 4]]])) + built(1, ([5, 7], [1, 2], [[[10, 0], [100, 1000]]]))
        self.assertEqual(numbers_at(places_after(*calls, (MAKE, MULTIPLIED, 0, 1, 2)), 2), (
            [10, 14, 15, 21], [5, 10, 7, 14],
            [[[10, 0, 20, 0], [100, 1000, 200, 2000], [30, 0, 40, 0], [300, 3000, 400, 4000]]]))

    def test_one_behind_the_other_written_out(self):
        calls = built(0, ([2, 3], [5, 7], [[[1, 2], [3, 4]]])) + built(1, ([10], [8], [[[9]]]))
        self.assertEqual(numbers_at(places_after(*calls, (MAKE, BEHIND, 0, 1, 2)), 2), (
            [2, 3, 310], [0, 0, 8], [[[1, 2, 190], [3, 4, 430], [0, 0, 9]]]))

    def test_turned_written_out(self):
        self.assertEqual(numbers_at(places_after(*BOTH, (MAKE, TURNED, 0, 1, 2)), 2), (
            [5, 7], [2, 3], [[[11, 17], [13, 19]], [[23, 31], [29, 37]]]))

    def test_numbers_near_p(self):
        one = [P - 1, P - 2], [P - 3, P - 4], [[[P - 5, P - 6], [P - 7, P - 8]]]
        other = [P - 1] * 3, [P - 2] * 3, [[[P - 3] * 3] * 3]
        for kind in KINDS:
            calls = built(0, one) + built(1, other) + [(MAKE, kind, 0, 1, 2)]
            self.assertEqual(numbers_at(places_after(*calls), 2), plain.MADE[kind](one, other))
            self.assertEqual(replies(*calls, *worths(2, [(0,) * k for k in range(9)]))[-9:],
                             [told(kind, one, other, (0,) * k) for k in range(9)])

    def test_many_machines(self):
        chance = random.Random(6)
        for round_number in range(40):
            letters = chance.choice((1, 2))
            one, other = [plain.zeros(chance.randint(1, 3), letters) for k in range(2)]
            for sample in (one, other):
                for row in [sample[0], sample[1]] + [row for square in sample[2] for row in square]:
                    row[:] = [chance.choice((0, 1, chance.randrange(P), P - 1)) for x in row]
            calls = built(3, one) + built(4, other)
            for kind in KINDS:
                self.assertEqual(numbers_at(places_after(*calls, (MAKE, kind, 3, 4, 5)), 5), plain.MADE[kind](one, other))

    def test_of_turned_only_the_letters_of_the_second_matter(self):
        for second in (constant(9, 2), chain(4, 2), ONE, ([0], [0], [[[0]], [[0]]])):
            self.assertEqual(numbers_at(places_after(*built(0, OTHER), *built(1, second), (MAKE, TURNED, 0, 1, 2)), 2),
                             plain.turned(OTHER, second))
        self.assertEqual(reply(*of_32_states(0), *of_32_states(1), (MAKE, TURNED, 0, 1, 2)), [32])
        self.assertEqual(reply(*built(0, OTHER), *nothing_at(1, 2), (MAKE, TURNED, 0, 1, 2)), [3])
        self.assertEqual(reply(*built(0, OTHER), *built(1, chain(2, 3)), (MAKE, TURNED, 0, 1, 2)), [-1])


class ThePlace(unittest.TestCase):
    def test_may_be_any(self):
        for slot in range(8):
            for kind in KINDS:
                places = places_after(*BOTH, (MAKE, kind, 0, 1, slot))
                for k in range(8):
                    expected = plain.MADE[kind](ONE, OTHER) if k == slot else SAMPLES.get(k)
                    self.assertEqual(numbers_at(places, k), expected)

    def test_may_be_both(self):
        for kind in KINDS:
            self.assertEqual(replies(*built(1, OTHER), (MAKE, kind, 1, 1, 1), *worths(1, WORDS))[-1 - len(WORDS):],
                             [STATES[1, 1][kind]] + [told(kind, OTHER, OTHER, word) for word in WORDS])
            self.assertEqual(numbers_at(places_after(*built(1, OTHER), (MAKE, kind, 1, 1, 1)), 1),
                             plain.MADE[kind](OTHER, OTHER))

    def test_what_lay_there_is_gone(self):
        calls = BOTH + built(2, constant(5, 1)) + [(MAKE, ADDED, 0, 1, 2), worth(2, (1, 0)), worth(2, (2,))]
        self.assertEqual(replies(*calls)[-3:], [5, told(ADDED, ONE, OTHER, (1, 0)), -1])

    def test_the_machines_it_is_made_of_stay_as_they_are(self):
        changes = [(FIRST, 2, 0, 1000), (LAST, 2, 1, 1000), (HAND, 2, 0, 0, 0, 1000), (HAND, 2, 1, 1, 0, 1000)]
        for kind in KINDS:
            places = places_after(*BOTH, (MAKE, kind, 0, 1, 2), *changes)
            self.assertEqual((numbers_at(places, 0), numbers_at(places, 1)), (ONE, OTHER))
            self.assertEqual(places.machine_at(2).hands[0][0][0], 1000)

    def test_it_stays_when_these_change(self):
        changes = [(call, slot, i, 1000) for call in (FIRST, LAST) for slot in (0, 1) for i in (0, 1)]
        changes += [(HAND, slot, a, 0, 1, 1000) for slot in (0, 1) for a in (0, 1)]
        for kind in KINDS:
            places = places_after(*BOTH, (MAKE, kind, 0, 1, 2), *changes)
            self.assertEqual(numbers_at(places, 2), plain.MADE[kind](ONE, OTHER))

    def test_its_numbers_can_be_changed(self):
        for kind, states in zip(KINDS, STATES[0, 1]):
            last = states - 1
            made = plain.MADE[kind](ONE, OTHER)
            made[0][last], made[1][last], made[2][1][last][0] = 1, 2, 3
            calls = [(MAKE, kind, 0, 1, 2), (FIRST, 2, last, 1), (LAST, 2, last, 2), (HAND, 2, 1, last, 0, 3),
                     (FIRST, 2, states, 1), (HAND, 2, 2, 0, 0, 1)]
            self.assertEqual(replies(*BOTH, *calls)[-5:], [0, 0, 0, -1, -1])
            self.assertEqual(replies(*BOTH, *calls, *worths(2, WORDS))[-len(WORDS):],
                             [plain.worth(made, word) for word in WORDS])


class Refused(unittest.TestCase):
    def test_another_kind(self):
        for kind in (-1, 4, 5, -4, LOWEST, HIGHEST):
            self.assertEqual(reply(*BOTH, (MAKE, kind, 0, 1, 2)), [-1])

    def test_another_place(self):
        filled = [(NEW, slot, 1, 1) for slot in range(8)]
        for kind in KINDS:
            for slot in OTHER_PLACES:
                self.assertEqual(reply(*filled, (MAKE, kind, slot, 1, 2)), [-1])
                self.assertEqual(reply(*filled, (MAKE, kind, 0, slot, 2)), [-1])
                self.assertEqual(reply(*filled, (MAKE, kind, 0, 1, slot)), [-1])

    def test_a_machine_missing(self):
        for kind in KINDS:
            for i, j in ((3, 0), (0, 3), (3, 3), (3, 4)):
                self.assertEqual(reply(*BOTH, (MAKE, kind, i, j, 0)), [-1])

    def test_letters_not_as_many(self):
        for kind in KINDS:
            for one, other in ((1, 2), (2, 1), (2, 3), (3, 1)):
                self.assertEqual(reply(*of_states(0, 2, one), *of_states(1, 2, other), (MAKE, kind, 0, 1, 2)), [-1])

    def test_more_than_32_states(self):
        for kind in (ADDED, BEHIND):
            grown = [(NEW, 0, 8, 1), (NEW, 1, 8, 1), (NEW, 2, 7, 1)] + [(MAKE, kind, 1, 0, 0)] * 2 + [(MAKE, kind, 0, 2, 0)]
            self.assertEqual(replies(*grown, (NEW, 3, 1, 1), (MAKE, kind, 0, 3, 4), (MAKE, kind, 3, 0, 4))[-7:],
                             [0, 16, 24, 31, 0, 32, 32])
            self.assertEqual(replies(*grown, (NEW, 3, 2, 1), (MAKE, kind, 0, 3, 4), (MAKE, kind, 3, 0, 4))[-2:], [-2, -2])
            self.assertEqual(reply(*of_32_states(0), *of_32_states(1), (MAKE, kind, 0, 1, 2)), [-2])
        for m, n, states in ((8, 4, 32), (4, 8, 32), (8, 5, -2), (5, 8, -2), (7, 5, -2), (6, 5, 30), (8, 8, -2), (5, 7, -2)):
            self.assertEqual(reply(*of_states(0, m), *of_states(1, n), (MAKE, MULTIPLIED, 0, 1, 2)), [states])
        self.assertEqual(reply(*built(0, constant(3, 1)), *of_32_states(1), (MAKE, MULTIPLIED, 0, 1, 2)), [32])
        # 3 times 11: one more than 32.
        self.assertEqual(replies(*of_states(0, 3), *of_states(1, 8), (MAKE, ADDED, 0, 1, 1), (MAKE, MULTIPLIED, 0, 1, 2)),
                         [0, 0, 11, -2])

    def test_32_states_are_made_rightly(self):
        one, other = chain(8), ([1, 2, 0, 0], [1, 1, 3, 0], [[[5, 0, 0, 1], [0, 0, 7, 0], [0, 0, 0, 0], [0, 1, 0, 0]]])
        self.assertEqual(numbers_at(places_after(*built(0, one), *built(1, other), (MAKE, MULTIPLIED, 0, 1, 2)), 2),
                         plain.multiplied(one, other))

    def test_minus_1_before_minus_2(self):
        large = [call for slot in (0, 1) for call in of_32_states(slot)]
        for kind in (ADDED, MULTIPLIED, BEHIND):
            self.assertEqual(reply(*large, (MAKE, kind, 0, 1, 2)), [-2])
            for slot in OTHER_PLACES:
                self.assertEqual(reply(*large, (MAKE, kind, 0, 1, slot)), [-1])
            self.assertEqual(reply(*of_32_states(0, 1), *of_32_states(1, 2), (MAKE, kind, 0, 1, 2)), [-1])
        for kind in (-1, 4):
            self.assertEqual(reply(*large, (MAKE, kind, 0, 1, 2)), [-1])

    def test_refused_changes_nothing(self):
        calls = BOTH + [(NEW, 2, 8, 2), (FIRST, 2, 7, 5), (LAST, 2, 7, 6), (NEW, 3, 1, 1)]
        before = [numbers_at(places_after(*calls), slot) for slot in range(8)]
        for refused in ((MAKE, 4, 0, 1, 2), (MAKE, -1, 0, 1, 2), (MAKE, ADDED, 0, 1, 8), (MAKE, ADDED, 0, 1, -1),
                        (MAKE, ADDED, -1, 1, 2), (MAKE, TURNED, 0, 8, 2), (MAKE, BEHIND, 0, 4, 2), (MAKE, BEHIND, 4, 0, 2),
                        (MAKE, MULTIPLIED, 0, 3, 2), (MAKE, TURNED, 0, 3, 2), (MAKE, MULTIPLIED, 2, 2, 2),
                        (MAKE, MULTIPLIED, 2, 2, 4)):
            self.assertIn(reply(*calls, refused), ([-1], [-2]))
            places = places_after(*calls, refused)
            self.assertEqual([numbers_at(places, slot) for slot in range(8)], before)
            self.assertEqual(reply(*calls, refused, worth(2, ())), [30])


class OfNoStates(unittest.TestCase):
    def test_at_i(self):
        for kind, states, part in ((ADDED, 3, 1), (MULTIPLIED, 0, 0), (BEHIND, 3, 0), (TURNED, 0, 0)):
            given = replies(*nothing_at(0, 2), *built(1, OTHER), (MAKE, kind, 0, 1, 2), *worths(2, WORDS))
            self.assertEqual(given[-1 - len(WORDS):], [states] + [part * plain.worth(OTHER, word) for word in WORDS])

    def test_at_j(self):
        for kind, states in ((ADDED, 3), (MULTIPLIED, 0), (BEHIND, 3), (TURNED, 3)):
            given = replies(*built(0, OTHER), *nothing_at(1, 2), (MAKE, kind, 0, 1, 2), *worths(2, WORDS))
            self.assertEqual(given[-1 - len(WORDS):], [states] + [
                {ADDED: plain.worth(OTHER, word), TURNED: plain.worth(OTHER, word[::-1])}.get(kind, 0) for word in WORDS])

    def test_at_both(self):
        for kind in KINDS:
            self.assertEqual(replies(*nothing_at(0, 3), (MAKE, kind, 0, 0, 0), *worths(0, [(), (2, 1), (3,)])),
                             [0, 0, 0, 0, 0, -1])
            self.assertEqual(replies(*nothing_at(0, 3), *nothing_at(1, 3), (MAKE, kind, 0, 1, 2), (APART, 0, 2, 1))[-2:],
                             [0, -3])

    def test_letters_still_have_to_be_as_many(self):
        for kind in KINDS:
            self.assertEqual(reply(*nothing_at(0, 2), (NEW, 1, 2, 1), (MAKE, kind, 0, 1, 2)), [-1])
            self.assertEqual(reply(*nothing_at(0, 2), *nothing_at(1, 1), (MAKE, kind, 0, 1, 2)), [-1])

    def test_no_states_and_32(self):
        for kind, states in ((ADDED, 32), (MULTIPLIED, 0), (BEHIND, 32)):
            for i, j in ((0, 1), (1, 0)):
                self.assertEqual(reply(*of_32_states(0), *nothing_at(1, 1), (MAKE, kind, i, j, 2)), [states])


if __name__ == "__main__":
    unittest.main()
