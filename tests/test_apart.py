"""Promise 7: apart."""

import random
import unittest

from tests import plain
from tests.calls import (ADDED, APART, BEHIND, FIRST, HIGHEST, LEAST, LOWEST, MAKE, MULTIPLIED, NEW, OTHER_PLACES, P, TURNED,
                         all_replies, built, chain, constant, diagonal, line, nothing_at, numbers_at, places_after, reply,
                         split, worth)
from wordworths.kept import Machine, Places
from wordworths.machines import answers, answers_at

ROOM = 65536


def apart(one, other, room=ROOM):
    return reply(*built(0, one), *built(1, other), (APART, 0, 1, room))


def apart_at_places(one, other, room=ROOM):
    """For machines that take more calls to build than a line has."""
    places = Places()
    for slot, sample in enumerate((one, other)):
        places.put(slot, Machine(*sample))
    return split(answers_at(places, [APART, 0, 1, room]))[0]


def told(word):
    return [len(word), *word]


def late_ones(m, n):
    """Two machines, of m and n states and one letter, that have the same worths up to m+n-2 letters.

    The sum over all r of r to the power of k, divided by the product of r less each other one,
    is 0 for k up to m+n-2 and 1 for k = m+n-1.
    """
    roots = range(1, m + n + 1)
    firsts = []
    for r in roots:
        product = 1
        for s in roots:
            if s != r:
                product = product * (r - s) % P
        firsts.append(pow(product, -1, P))
    return diagonal(firsts[:m], roots[:m]), diagonal([-x % P for x in firsts[m:]], roots[m:])


def only(*words, letters=2):
    """A machine by which these words, all as long and none with a letter in the place of another's, are worth 1."""
    length = len(words[0])
    hands = [[[0] * (length + 1) for i in range(length + 1)] for a in range(letters)]
    for word in words:
        for i, a in enumerate(word):
            hands[a][i][i + 1] = 1
    return [1] + [0] * length, [0] * length + [1], hands


class TheFirstWord(unittest.TestCase):
    def test_the_empty_word(self):
        self.assertEqual(apart(constant(3, 1), constant(4, 1)), [0])
        self.assertEqual(answers(line(built(0, constant(3, 1)) + [(NEW, 1, 1, 1), (APART, 0, 1, 5)]))[-2:], [1, 0])

    def test_how_many_letters_then_they(self):
        given = answers(line(built(0, only((2, 0, 1), letters=3)) + [(NEW, 1, 1, 3), (APART, 0, 1, 3), (NEW, 1, 1, 1)]))
        self.assertEqual(given[-7:], [4, 3, 2, 0, 1, 1, 0])

    def test_a_word_that_only_one_is_worth_something_of(self):
        for length in range(1, 8):
            for word in ([0] * length, [1] * length, [k % 2 for k in range(length)]):
                self.assertEqual(apart(only(word), ([0], [0], [[[0]], [[0]]])), told(word))
                self.assertEqual(apart(([0], [0], [[[0]], [[0]]]), only(word)), told(word))

    def test_of_m_and_n_states_it_can_have_m_and_n_less_1_letters(self):
        for m, n in ((1, 1), (1, 2), (2, 1), (3, 2), (4, 4), (8, 1), (1, 8), (8, 7)):
            one, other = late_ones(m, n)
            self.assertEqual(apart(one, other), told([0] * (m + n - 1)))
            self.assertEqual(apart(other, one), told([0] * (m + n - 1)))

    def test_such_a_word_of_machines_with_32_states(self):
        for m, n in ((32, 32), (32, 1), (16, 32), (31, 32)):
            self.assertEqual(apart_at_places(*late_ones(m, n)), told([0] * (m + n - 1)))

    def test_such_a_word_has_all_letters_but_the_first_in_it(self):
        # The letter 1 does what 0 does in late_ones, and 0 keeps all as it is.
        for m, n in ((2, 3), (4, 4), (20, 30)):
            keeping = []
            for sample in late_ones(m, n):
                size = range(len(sample[0]))
                keeping.append((sample[0], sample[1], [[[int(i == j) for j in size] for i in size], sample[2][0]]))
            self.assertEqual(apart_at_places(*keeping), told([1] * (m + n - 1)))

    def test_a_shorter_word_goes_before_one_with_lesser_letters(self):
        both = plain.added(only((1, 1)), only((0, 0, 0)))
        self.assertEqual(apart(both, ([0], [0], [[[0]], [[0]]])), told((1, 1)))
        self.assertEqual(apart(plain.added(only((2,), letters=3), only((0, 1), letters=3)), chain(8, 3)), told((2,)))

    def test_of_several_as_long_the_one_with_the_least_letter_where_they_first_differ(self):
        for words, expected in ((((0, 1), (1, 0)), (0, 1)), (((1, 0), (1, 1)), (1, 0)), (((0, 1, 1), (1, 0, 0)), (0, 1, 1)),
                                (((2, 0), (1, 2)), (1, 2)), (((1, 2, 0), (1, 1, 2), (2, 0, 0)), (1, 1, 2))):
            for order in (words, words[::-1]):
                machine = only(order[0], letters=3)
                for word in order[1:]:
                    machine = plain.added(machine, only(word, letters=3))
                self.assertEqual(apart_at_places(machine, ([0], [0], [[[0]]] * 3)), told(expected))

    def test_worths_that_are_different_but_neither_0(self):
        one, other = plain.added(constant(9, 2), only((1, 0))), plain.added(constant(9, 2), only((1, 1)))
        self.assertEqual(apart(one, other), told((1, 0)))
        self.assertEqual(apart(other, one), told((1, 0)))

    def test_the_two_by_their_order(self):
        self.assertEqual(all_replies(*built(2, chain(3)), *built(5, chain(5)), (APART, 2, 5, 9), (APART, 5, 2, 9))[-2:],
                         [[2, 0, 0], [2, 0, 0]])

    def test_against_all_words_tried_one_by_one(self):
        chance = random.Random(7)
        longest = 0
        for round_number in range(400):
            letters = chance.choice((1, 2, 3))
            samples = [sparse_sample(chance, chance.randint(1, 4 if letters < 3 else 3), letters) for k in range(2)]
            if chance.random() < 0.5:
                samples[1] = nearly_the_same(chance, samples[0])
            states = sum(len(sample[0]) for sample in samples)
            word = plain.first_apart(letters, lambda word: plain.worth(samples[0], word),
                                     lambda word: plain.worth(samples[1], word), states - 1)
            self.assertEqual(apart_at_places(*samples), [-3] if word is None else told(word))
            longest = max(longest, len(word or ()))
        self.assertGreater(longest, 2)


def sparse_sample(chance, states, letters):
    sample = plain.zeros(states, letters)
    for row in [sample[0], sample[1]] + [row for square in sample[2] for row in square]:
        row[:] = [chance.choice((0, 0, 0, 1, P - 1, chance.randrange(P))) for x in row]
    return sample


def nearly_the_same(chance, sample):
    """The same machine with its states in another order, or that with one number changed."""
    order = list(range(len(sample[0])))
    chance.shuffle(order)
    other = ([sample[0][i] for i in order], [sample[1][i] for i in order],
             [[[square[i][j] for j in order] for i in order] for square in sample[2]])
    if chance.random() < 0.7:
        row = chance.choice([other[0], other[1]] + [row for square in other[2] for row in square])
        row[chance.randrange(len(row))] = 1
    return other


class TheSame(unittest.TestCase):
    def test_i_is_j(self):
        for sample in (constant(3, 1), chain(8), ([0, 0], [0, 0], [[[0, 0], [0, 0]]])):
            for room in (0, 1, ROOM, -1):
                self.assertEqual(reply(*built(4, sample), (APART, 4, 4, room)), [-3])

    def test_with_different_numbers(self):
        self.assertEqual(apart(([2], [3], [[[5]]]), ([3], [2], [[[5]]])), [-3])
        self.assertEqual(apart(([1, 0], [0, 0], [[[3, 4], [5, 6]]]), ([0, 0], [0, 7], [[[8, 9], [0, 0]]])), [-3])
        self.assertEqual(apart(([1, 5], [1, 0], [[[2, 0], [0, 3]]]), ([0, 1], [9, 1], [[[4, 0], [0, 2]]])), [-3])

    def test_with_different_numbers_of_states(self):
        self.assertEqual(apart(constant(3, 2), ([1, 2], [1, 1], [[[1, 0], [0, 1]]] * 2)), [-3])
        self.assertEqual(apart(([1, 1], [0, 1], [[[2, 1], [0, 2]]]), diagonal((1, 0, 0), (2, 3, 4))), [1, 0])
        self.assertEqual(apart(([0, 1], [0, 1], [[[9, 0], [9, 2]]]), ([1], [1], [[[2]]])), [-3])

    def test_a_sum_that_is_0_only_modulo_p(self):
        self.assertEqual(apart(diagonal((1, P - 1), (5, 5)), ([0], [0], [[[0]]])), [-3])
        self.assertEqual(apart(([2], [(P + 1) // 2], [[[3]]]), ([1], [1], [[[3]]])), [-3])
        self.assertEqual(apart(([P - 1], [P - 1], [[[3]]]), ([1], [1], [[[3]]])), [-3])

    def test_made_in_two_ways(self):
        calls = built(0, ([2, 3], [5, 7], [[[1, 2], [3, 4]]])) + built(1, ([1, 4], [6, 1], [[[8, 0], [9, 10]]]))
        for kind in (ADDED, MULTIPLIED, BEHIND):
            # With one letter a word turned is the same word, so that it's all one which is the first.
            both = [(MAKE, kind, 0, 1, 2), (MAKE, kind, 1, 0, 3), (APART, 2, 3, ROOM)]
            self.assertEqual(all_replies(*calls, *both)[-1], [-3])
            back = [(MAKE, kind, 0, 1, 2), (MAKE, TURNED, 2, 0, 3), (APART, 2, 3, ROOM)]
            self.assertEqual(all_replies(*calls, *back)[-1], [-3])

    def test_whatever_the_room(self):
        for room in (LOWEST, -1, 0, 1, 5, 65536, 65537, HIGHEST):
            self.assertEqual(apart(constant(3, 1), ([1, 2], [1, 1], [[[1, 0], [0, 1]]]), room), [-3])


class Room(unittest.TestCase):
    def test_just_enough(self):
        for length in (1, 2, 7):
            word = [1] * length
            nothing = ([0], [0], [[[0]], [[0]]])
            for room in (length, length + 1, 100, 65535, 65536):
                self.assertEqual(apart(only(word), nothing, room), told(word))
            for room in range(1, length):
                self.assertEqual(apart(only(word), nothing, room), [-2])

    def test_outside_1_to_65536_it_is_taken_for_0(self):
        for room in (0, -1, 65537, 65538, LOWEST, HIGHEST):
            self.assertEqual(apart(chain(2), ([0], [0], [[[0]]]), room), [-2])
        for room in (1, 2, 65535, 65536):
            self.assertEqual(apart(chain(2), ([0], [0], [[[0]]]), room), [1, 0])

    def test_none_is_needed_for_the_empty_word(self):
        for room in (LOWEST, -1, 0, 1, 65536, 65537, HIGHEST):
            self.assertEqual(apart(constant(1, 1), constant(2, 1), room), [0])


class Refused(unittest.TestCase):
    def test_a_machine_missing(self):
        for slot in range(8):
            others = [(NEW, k, 1, 1) for k in range(8) if k != slot]
            other = (slot + 1) % 8
            self.assertEqual(all_replies(*others, (APART, slot, other, 9), (APART, other, slot, 9), (APART, slot, slot, 9))[-3:],
                             [[-1]] * 3)

    def test_another_place(self):
        filled = [call for k in range(8) for call in built(k, constant(k, 1))]
        for slot in OTHER_PLACES:
            self.assertEqual(all_replies(*filled, (APART, slot, 0, 9), (APART, 0, slot, 9), (APART, slot, slot, 9))[-3:],
                             [[-1]] * 3)

    def test_letters_not_as_many(self):
        for one, other in ((1, 2), (2, 1), (2, 3), (3, 1)):
            self.assertEqual(apart(constant(3, one), constant(4, other)), [-1])
            self.assertEqual(apart(constant(0, one), constant(0, other)), [-1])

    def test_it_goes_before_the_other_refusals(self):
        for room in (0, -1, 65537):
            self.assertEqual(apart(chain(3, 1), chain(5, 2), room), [-1])
            self.assertEqual(apart(constant(0, 1), constant(0, 2), room), [-1])

    def test_nothing_changes(self):
        calls = built(0, chain(3)) + built(1, chain(4)) + built(2, constant(5, 2)) + built(3, chain(3))
        before = [numbers_at(places_after(*calls), slot) for slot in range(8)]
        for asked in ((APART, 0, 1, 9), (APART, 0, 1, 1), (APART, 0, 2, 9), (APART, 0, 4, 9), (APART, 0, 3, 9)):
            places = places_after(*calls, asked)
            self.assertEqual([numbers_at(places, slot) for slot in range(8)], before)

    def test_the_next_call_is_read_rightly(self):
        calls = built(0, chain(3)) + built(1, chain(4)) + built(2, constant(5, 2))
        for asked in ((APART, 0, 1, 9), (APART, 0, 1, 1), (APART, 0, 2, 9), (APART, 0, 4, 9), (APART, 0, 0, 9)):
            self.assertEqual(reply(*calls, asked, worth(2, (1, 0))), [5])


class MadeByMake(unittest.TestCase):
    # Four chains of eight states one behind the other: only a word of 28 letters is worth something.
    LONG = built(0, chain(8, 2, 1)) + [(MAKE, BEHIND, 0, 0, 0), (MAKE, BEHIND, 0, 0, 0)]

    def test_of_32_states_each(self):
        other = [(MAKE, TURNED, 0, 0, 1)]
        self.assertEqual(all_replies(*self.LONG, *other, (APART, 0, 1, ROOM), (APART, 1, 0, 0))[-2:], [[-3], [-3]])
        nothing = [(NEW, 1, 8, 2), (NEW, 2, 4, 2), (MAKE, MULTIPLIED, 1, 2, 1)]
        self.assertEqual(all_replies(*self.LONG, *nothing, (APART, 0, 1, 28), (APART, 1, 0, 28), (APART, 0, 1, 27))[-3:],
                         [told([1] * 28), told([1] * 28), [-2]])

    def test_of_32_states_that_are_all_needed(self):
        roots = built(0, diagonal([1] * 8, range(1, 9))) + built(1, diagonal([1] * 4, (1, 10, 100, 1000)))
        self.assertEqual(all_replies(*roots, (MAKE, MULTIPLIED, 0, 1, 2), (MAKE, MULTIPLIED, 1, 0, 3), (APART, 2, 3, ROOM),
                                     (FIRST, 3, 31, 2), (APART, 2, 3, ROOM))[-5:],
                         [[32], [32], [-3], [0], [0]])

    def test_one_behind_the_other_is_not_the_other_behind_the_one(self):
        calls = built(0, chain(2, 2, 0)) + built(1, chain(2, 2, 1)) + [(MAKE, BEHIND, 0, 1, 2), (MAKE, BEHIND, 1, 0, 3)]
        self.assertEqual(all_replies(*calls, (APART, 2, 3, 2), (APART, 3, 2, 2), (MAKE, TURNED, 3, 3, 3), (APART, 2, 3, 2))[-4:],
                         [[2, 0, 1], [2, 0, 1], [4], [-3]])


class OfNoStates(unittest.TestCase):
    def test_the_same_as_what_is_worth_0(self):
        calls = nothing_at(0, 2) + [(NEW, 1, 8, 2)] + nothing_at(2, 2)
        for i, j in ((0, 0), (0, 1), (1, 0), (0, 2)):
            self.assertEqual(reply(*calls, (APART, i, j, ROOM)), [-3])

    def test_the_first_word_that_is_worth_something(self):
        calls = nothing_at(0, 2) + built(1, only((1, 0, 1))) + built(2, constant(1, 2))
        self.assertEqual(all_replies(*calls, (APART, 0, 1, 3), (APART, 1, 0, 3), (APART, 1, 0, 2), (APART, 0, 2, 0))[-4:],
                         [told((1, 0, 1)), told((1, 0, 1)), [-2], [0]])

    def test_letters_not_as_many(self):
        self.assertEqual(reply(*nothing_at(0, 2), *nothing_at(1, 1), (APART, 0, 1, 3)), [-1])

    def test_of_what_least_left(self):
        calls = built(0, chain(4)) + [(LEAST, 0, 1), (APART, 0, 1, 9), (LEAST, 0, 0), (APART, 1, 0, 9)]
        self.assertEqual(all_replies(*calls)[-4:], [[4], [-3], [4], [-3]])


if __name__ == "__main__":
    unittest.main()
