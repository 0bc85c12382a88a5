"""Promise 8: least."""

import random
import unittest

from tests import plain
from tests.calls import (ADDED, APART, BEHIND, FIRST, HAND, HIGHEST, LAST, LEAST, LOWEST, MAKE, MULTIPLIED, NEW,
                         OTHER_PLACES, P, TURNED, all_replies, built, chain, constant, diagonal, nothing_at, numbers_at,
                         places_after, replies, reply, split, worth, worths)
from wordworths.kept import Machine, Places
from wordworths.machines import answers_at

ROOM = 65536
NOTHING = [0, 0], [0, 0], [[[0, 0], [0, 0]]]
# (sample, its fewest states).
KNOWN = [
    (constant(3, 2), 1),
    (constant(0, 2), 0),
    (NOTHING, 0),
    (chain(1), 1),
    (chain(5, 2, 1), 5),
    (chain(8), 8),
    # Fibonacci's numbers.
    (([1, 0], [0, 1], [[[1, 1], [1, 0]]]), 2),
    # Two states that do the same.
    (([1, 2], [5, 5], [[[0, 1], [1, 0]]]), 1),
    (([1, 1], [2, 3], [[[4, 5], [5, 4]]]), 1),
    # Two that take from one another what they give.
    (diagonal((1, P - 1), (7, 7)), 0),
    (diagonal((1, P - 1), (7, 8)), 2),
    # As many different roots as states, and a root twice.
    (diagonal([1] * 8, range(1, 9)), 8),
    (diagonal([1] * 8, (1, 2, 3, 4, 5, 6, 7, 7)), 7),
    (diagonal([1, 1], (0, 0)), 1),
    (diagonal([1, 1], (0, P - 1)), 2),
    # States that no word comes to.
    (([1, 0, 0], [1, 1, 1], [[[2, 0, 0], [3, 4, 5], [6, 7, 8]]]), 1),
    (([0, 1, 0], [1, 1, 1], [[[2, 3, 4], [0, 5, 0], [6, 7, 8]]]), 1),
    (([0, 0, 0], [1, 2, 3], [[[2, 3, 4], [5, 6, 7], [8, 9, 1]]]), 0),
    # States from which nothing is worth anything.
    (([1, 1, 1], [1, 0, 0], [[[2, 3, 4], [0, 5, 6], [0, 7, 8]]]), 1),
    (([1, 1, 1], [0, 0, 1], [[[2, 3, 0], [4, 5, 0], [6, 7, 8]]]), 1),
    (([1, 2, 3], [0, 0, 0], [[[2, 3, 4], [5, 6, 7], [8, 9, 1]]]), 0),
    # Both: the one state that is left is in the middle.
    (([1, 1, 0], [0, 1, 1], [[[0, 0, 0], [0, 2, 0], [0, 9, 9]]]), 1),
    # Words come to the first half, and what's worth something begins in the second.
    (([1, 0, 0, 0], [0, 0, 0, 1], [[[1, 1, 0, 0], [1, 0, 0, 0], [0, 0, 1, 1], [0, 0, 1, 0]]]), 0),
]


def least_of(sample, slot=1):
    return reply(*built(0, sample), (LEAST, 0, slot))[0]


def at_places(sample, *calls):
    """What the calls answer if the sample lies at 0: for machines that take more calls to build than a line has."""
    places = Places()
    places.put(0, Machine(*sample))
    return split(answers_at(places, [number for call in calls for number in call]))


def mixed(chance, sample):
    """The same machine with other numbers: state by state some of the one is counted with another."""
    firsts, lasts, hands = list(sample[0]), list(sample[1]), [[list(row) for row in square] for square in sample[2]]
    for times in range(2 * len(firsts)):
        i, j = chance.sample(range(len(firsts)), 2)
        x = chance.randrange(P)
        firsts[j] = (firsts[j] + x * firsts[i]) % P
        lasts[i] = (lasts[i] - x * lasts[j]) % P
        for square in hands:
            for row in square:
                row[j] = (row[j] + x * row[i]) % P
            square[i] = [(y - x * z) % P for y, z in zip(square[i], square[j])]
    return firsts, lasts, hands


class HowManyStates(unittest.TestCase):
    def test_of_machines_whose_fewest_are_known(self):
        for sample, states in KNOWN:
            self.assertEqual(least_of(sample), states, sample)
            self.assertEqual(len(places_after(*built(0, sample), (LEAST, 0, 1)).machine_at(1).firsts), states)

    def test_of_what_is_made(self):
        one, other = built(0, diagonal((1, 1), (2, 3))), built(1, diagonal((1, 1), (3, 5)))
        for kind, states in ((ADDED, 3), (MULTIPLIED, 4), (BEHIND, 4), (TURNED, 2)):
            self.assertEqual(reply(*one, *other, (MAKE, kind, 0, 1, 2), (LEAST, 2, 3)), [states])
        self.assertEqual(replies(*one, (MAKE, ADDED, 0, 0, 2), (LEAST, 2, 2))[-2:], [4, 2])
        self.assertEqual(replies(*one, (MAKE, MULTIPLIED, 0, 0, 2), (LEAST, 2, 2))[-2:], [4, 3])

    def test_32_states_that_are_all_needed(self):
        roots = built(0, diagonal([1] * 8, range(1, 9))) + built(1, diagonal([1] * 4, (1, 10, 100, 1000)))
        calls = roots + [(MAKE, MULTIPLIED, 0, 1, 2), (LEAST, 2, 3), (APART, 2, 3, ROOM), (LEAST, 3, 3), (APART, 2, 3, ROOM)]
        self.assertEqual(replies(*calls)[-5:], [32, 32, -3, 32, -3])

    def test_32_states_of_which_fewer_are_needed(self):
        # Four chains of 8 states one behind the other: only a word of 28 letters is worth something.
        long = built(0, chain(8)) + [(MAKE, BEHIND, 0, 0, 0), (MAKE, BEHIND, 0, 0, 0)]
        self.assertEqual(replies(*long, (LEAST, 0, 1), worth(1, [0] * 28), worth(1, [0] * 27), (APART, 0, 1, ROOM))[-6:],
                         [16, 32, 29, 1, 0, -3])
        nothing = [(NEW, 0, 8, 3), (NEW, 1, 4, 3), (MAKE, MULTIPLIED, 0, 1, 2), (LEAST, 2, 2)]
        self.assertEqual(replies(*nothing), [0, 0, 32, 0])

    def test_it_may_be_none_and_every_word_is_worth_0(self):
        for sample in (constant(0, 3), plain.zeros(8, 3), ([1, 2], [0, 0], [[[1, 2], [3, 4]]] * 3)):
            self.assertEqual(replies(*built(0, sample), (LEAST, 0, 1), *worths(1, [(), (0,), (2, 1), (1,) * 200]))[-5:], [0] * 5)

    def test_against_the_rank_of_the_worths_of_all_words(self):
        chance = random.Random(8)
        seen = set()
        for round_number in range(150):
            letters = chance.choice((1, 2))
            sample = plain.zeros(chance.randint(1, 5 if letters == 1 else 4), letters)
            for row in [sample[0], sample[1]] + [row for square in sample[2] for row in square]:
                row[:] = [chance.choice((0, 0, 0, 0, 1, P - 1, chance.randrange(P))) for x in row]
            states = plain.fewest(letters, lambda word: plain.worth(sample, word), len(sample[0]))
            seen.add((len(sample[0]), states))
            self.assertEqual(at_places(sample, (LEAST, 0, 1), (APART, 0, 1, ROOM)), [[states], [-3]])
            self.assertEqual(at_places(plain.turned(sample, None), (LEAST, 0, 1), (APART, 0, 1, ROOM)), [[states], [-3]])
        self.assertTrue({(1, 0), (1, 1), (2, 1), (2, 2), (3, 2), (4, 1), (4, 3), (4, 4)} <= seen)

    def test_of_machines_whose_states_are_mixed(self):
        chance = random.Random(9)
        for sample, states in KNOWN:
            if len(sample[0]) > 1:
                other = mixed(chance, sample)
                self.assertEqual(at_places(other, (LEAST, 0, 1), (APART, 0, 1, ROOM)), [[states], [-3]])
        needed = chain(8, 2)
        idle = plain.zeros(12, 2)
        for a in (0, 1):
            for i in range(12):
                idle[2][a][i] = [chance.randrange(P) for j in range(12)]
        never_reached = idle[0], [chance.randrange(P) for i in range(12)], idle[2]
        worth_nothing = [chance.randrange(P) for i in range(12)], idle[1], idle[2]
        whole = mixed(chance, plain.added(plain.added(never_reached, needed), worth_nothing))
        self.assertEqual(at_places(whole, (LEAST, 0, 1), (APART, 0, 1, ROOM), (LEAST, 1, 1)), [[8], [-3], [8]])


class WhatLiesThere(unittest.TestCase):
    def test_is_the_same_as_what_lay_at_i(self):
        words = [(), (0,), (0, 0), (0,) * 3, (0,) * 7, (0,) * 8, (0,) * 200]
        for sample, states in KNOWN:
            calls = built(0, sample) + [(LEAST, 0, 1), (APART, 0, 1, ROOM), (APART, 1, 0, ROOM)]
            self.assertEqual(replies(*calls)[-2:], [-3, -3])
            self.assertEqual(replies(*calls, *worths(1, words))[-len(words):],
                             [plain.worth(sample, word) for word in words])

    def test_with_several_letters(self):
        chance = random.Random(10)
        for round_number in range(20):
            sample = plain.zeros(4, 3)
            for k in range(14):
                sample[2][chance.randrange(3)][chance.randrange(4)][chance.randrange(4)] = chance.randrange(P)
            for i in range(4):
                sample[0][i], sample[1][i] = chance.choice((0, 1, P - 1)), chance.choice((0, 1, P - 1))
            words = [[chance.randrange(3) for k in range(length)] for length in (0, 1, 1, 2, 2, 3, 4, 9, 30, 200)]
            self.assertEqual(replies(*built(0, sample), (LEAST, 0, 5), *worths(5, words))[-10:],
                             [plain.worth(sample, word) for word in words])

    def test_has_as_many_letters(self):
        for letters in (1, 2, 3):
            for x in (0, 5):
                calls = built(0, constant(x, letters)) + [(LEAST, 0, 1), worth(1, (letters - 1,)), worth(1, (letters,))]
                self.assertEqual(replies(*calls)[-2:], [x, -1])

    def test_its_numbers_are_from_0_to_p_less_1(self):
        for sample, states in KNOWN:
            firsts, lasts, hands = numbers_at(places_after(*built(0, sample), (LEAST, 0, 1)), 1)
            rows = [firsts, lasts] + [row for square in hands for row in square]
            self.assertTrue(all(0 <= x < P for row in rows for x in row))
            self.assertEqual([len(row) for row in rows], [states] * (2 + len(hands) * states))

    def test_least_of_least_has_as_many_states(self):
        for sample, states in KNOWN:
            calls = built(0, sample) + [(LEAST, 0, 1), (LEAST, 1, 2), (LEAST, 2, 2), (APART, 0, 2, ROOM)]
            self.assertEqual(replies(*calls)[-4:], [states] * 3 + [-3])


class ThePlace(unittest.TestCase):
    SAMPLE = [1, 2, 0], [5, 5, 6], [[[0, 1, 0], [1, 0, 0], [1, 2, 3]]]

    def test_may_be_i(self):
        words = [(0,) * k for k in range(9)]
        self.assertEqual(replies(*built(3, self.SAMPLE), (LEAST, 3, 3), *worths(3, words))[-10:],
                         [1] + [plain.worth(self.SAMPLE, word) for word in words])
        kept = built(3, self.SAMPLE) + [(MAKE, TURNED, 3, 3, 4), (MAKE, TURNED, 4, 4, 4), (LEAST, 3, 3), (APART, 3, 4, ROOM)]
        self.assertEqual(replies(*kept)[-4:], [3, 3, 1, -3])

    def test_may_be_any_other_and_what_lies_elsewhere_stays(self):
        for slot in range(8):
            calls = built(0, self.SAMPLE) + built(1, chain(2)) + [(LEAST, 0, slot)]
            self.assertEqual(reply(*calls), [1])
            places = places_after(*calls)
            for k in range(8):
                if k != slot:
                    self.assertEqual(numbers_at(places, k), {0: self.SAMPLE, 1: chain(2)}.get(k))
            self.assertEqual(reply(*calls, worth(slot, (0, 0, 0))), [plain.worth(self.SAMPLE, (0, 0, 0))])

    def test_what_lay_there_is_gone(self):
        calls = built(0, self.SAMPLE) + built(1, constant(7, 2)) + [(LEAST, 0, 1), worth(1, ()), worth(1, (1,))]
        self.assertEqual(replies(*calls)[-3:], [1, 15, -1])

    def test_it_stays_when_the_one_at_i_is_gone(self):
        for gone in ([(NEW, 0, 1, 1)], built(0, constant(4, 1)), [(MAKE, ADDED, 0, 0, 0)]):
            self.assertEqual(reply(*built(0, self.SAMPLE), (LEAST, 0, 1), *gone, worth(1, (0,))),
                             [plain.worth(self.SAMPLE, (0,))])

    def test_the_one_at_i_can_be_changed_afterwards(self):
        # Not even where it has its fewest states already are the two one.
        sample = chain(3)
        calls = built(0, sample) + [(LEAST, 0, 1)] + built(0, constant(9, 1)) + worths(1, [(), (0,), (0, 0), (0, 0, 0)])
        self.assertEqual(replies(*calls)[-4:], [0, 0, 1, 0])
        changed = [(FIRST, 0, 1, 5), (LAST, 0, 0, 5), (HAND, 0, 0, 2, 0, 5)]
        self.assertEqual(replies(*built(0, sample), (LEAST, 0, 1), *changed, *worths(1, [(), (0,), (0, 0), (0, 0, 0)]))[-4:],
                         [0, 0, 1, 0])


class Refused(unittest.TestCase):
    def test_no_machine(self):
        for i in range(8):
            others = [(NEW, k, 1, 1) for k in range(8) if k != i]
            self.assertEqual(replies(*others, (LEAST, i, i), (LEAST, i, (i + 1) % 8))[-2:], [-1, -1])

    def test_another_place(self):
        filled = [(NEW, k, 1, 1) for k in range(8)]
        for slot in OTHER_PLACES:
            self.assertEqual(replies(*filled, (LEAST, slot, 0), (LEAST, 0, slot), (LEAST, slot, slot))[-3:], [-1] * 3)

    def test_nothing_changes(self):
        calls = built(0, ThePlace.SAMPLE) + built(1, chain(2))
        before = [numbers_at(places_after(*calls), slot) for slot in range(8)]
        for refused in ((LEAST, 0, 8), (LEAST, 0, -1), (LEAST, 2, 0), (LEAST, 8, 1), (LEAST, -8, 0), (LEAST, LOWEST, 0),
                        (LEAST, 0, HIGHEST)):
            places = places_after(*calls, refused)
            self.assertEqual([numbers_at(places, slot) for slot in range(8)], before)
            self.assertEqual(all_replies(*calls, refused, worth(1, (0,)))[-2:], [[-1], [1]])


class MakeOfWhatLeastLeft(unittest.TestCase):
    def test_worths_and_states(self):
        one, other = ([1, 2], [5, 5], [[[0, 1], [1, 0]]]), ([1, 1, 4], [2, 0, 0], [[[3, 1, 0], [2, 0, 0], [0, 0, 6]]])
        calls = built(0, one) + built(1, other) + [(LEAST, 0, 0), (LEAST, 1, 1)]
        self.assertEqual(replies(*calls)[-2:], [1, 2])
        told = plain.told_of_sample(one), plain.told_of_sample(other)
        words = [(0,) * k for k in range(7)]
        for kind, states in ((ADDED, 3), (MULTIPLIED, 2), (BEHIND, 3), (TURNED, 1)):
            made = plain.told_of_two(kind, *told)
            self.assertEqual(replies(*calls, (MAKE, kind, 0, 1, 2), *worths(2, words))[-8:],
                             [states] + [made.tell(word) for word in words])

    def test_of_none(self):
        calls = nothing_at(0, 1) + built(1, chain(3))
        for kind, states in ((ADDED, 3), (MULTIPLIED, 0), (BEHIND, 3), (TURNED, 0)):
            self.assertEqual(replies(*calls, (MAKE, kind, 0, 1, 2), (LEAST, 2, 2))[-2:], [states, 3 * (kind == ADDED)])

    def test_least_of_none(self):
        self.assertEqual(replies(*nothing_at(0, 2), (LEAST, 0, 1), (LEAST, 1, 1), (APART, 0, 1, 1), worth(1, (1, 1))),
                         [0, 0, 0, 0, -3, 0])

    def test_more_than_32_states_are_counted_behind_least(self):
        roots = built(0, diagonal([1] * 8, range(1, 9))) + [(MAKE, ADDED, 0, 0, 1), (MAKE, ADDED, 1, 1, 1)]
        self.assertEqual(replies(*roots, (MAKE, ADDED, 0, 1, 2), (LEAST, 1, 1), (MAKE, ADDED, 0, 1, 2), (LEAST, 2, 3),
                                 (APART, 1, 3, 5))[-5:], [-2, 8, 16, 8, 0])


if __name__ == "__main__":
    unittest.main()
