"""Promise 5: worth."""

import random
import unittest

from tests import plain
from tests.calls import (BEGIN, FIRST, HAND, HIGHEST, LAST, LOWEST, NEW, OTHER_PLACES, P, WORTH, built, chain, constant,
                         diagonal, flat, nothing_at, numbers_at, places_after, replies, reply, worth, worths)
from wordworths.machines import answers

# Two states and two letters, all numbers different.
SAMPLE = [2, 3], [5, 7], [[[11, 13], [17, 19]], [[23, 29], [31, 37]]]
BIG = [P - 1, P - 2, P - 3], [P - 4, P - 5, P - 6], [[[P - 7 - 3 * i - j for j in range(3)] for i in range(3)]]


class Worth(unittest.TestCase):
    def test_the_empty_word(self):
        self.assertEqual(reply(*built(0, SAMPLE), worth(0, ())), [2 * 5 + 3 * 7])
        self.assertEqual(replies((NEW, 0, 3, 1), worth(0, ())), [0, 0])
        self.assertEqual(reply(*built(0, BIG), worth(0, ())), [1 * 4 + 2 * 5 + 3 * 6])

    def test_one_letter_is_handed_from_i_to_j(self):
        self.assertEqual(reply(*built(0, SAMPLE), worth(0, (0,))),
                         [2 * 11 * 5 + 2 * 13 * 7 + 3 * 17 * 5 + 3 * 19 * 7])
        self.assertEqual(reply(*built(0, SAMPLE), worth(0, (1,))),
                         [2 * 23 * 5 + 2 * 29 * 7 + 3 * 31 * 5 + 3 * 37 * 7])

    def test_the_letters_are_read_in_their_order(self):
        behind_0 = 2 * 11 + 3 * 17, 2 * 13 + 3 * 19
        behind_01 = behind_0[0] * 23 + behind_0[1] * 31, behind_0[0] * 29 + behind_0[1] * 37
        self.assertEqual(reply(*built(0, SAMPLE), worth(0, (0, 1))), [behind_01[0] * 5 + behind_01[1] * 7])
        self.assertNotEqual(reply(*built(0, SAMPLE), worth(0, (1, 0))), reply(*built(0, SAMPLE), worth(0, (0, 1))))

    def test_how_often_a_pattern_stands_in_a_text(self):
        # State 0 waits, state 1 has seen a 0, state 2 has seen 0 and then 1.
        pattern = [1, 0, 0], [0, 0, 1], [[[1, 1, 0], [0, 0, 0], [0, 0, 1]], [[1, 0, 0], [0, 0, 1], [0, 0, 1]]]
        for word in ((), (0,), (0, 1), (0, 1, 0, 1), (1, 0), (0, 0, 1, 1), (0, 1) * 29):
            often = sum(word[k:k + 2] == (0, 1) for k in range(len(word)))
            self.assertEqual(reply(*built(3, pattern), worth(3, word)), [often])

    def test_words_of_up_to_200_letters(self):
        fibonacci = [1, 0], [0, 1], [[[1, 1], [1, 0]]]
        x, y, told = 0, 1, []
        for k in range(201):
            told.append(x)
            x, y = y, (x + y) % P
        for length in (0, 1, 2, 3, 50, 199, 200):
            self.assertEqual(reply(*built(0, fibonacci), worth(0, [0] * length)), [told[length]])
        word = [(k * k + k // 3) % 2 for k in range(200)]
        self.assertEqual(reply(*built(0, SAMPLE), worth(0, word)), [plain.worth(SAMPLE, word)])

    def test_numbers_near_p_in_all_places(self):
        for sample in (BIG, ([P - 1] * 3, [P - 1] * 3, [[[P - 1] * 3] * 3]), constant(P - 1, 1)):
            for length in (0, 1, 2, 3, 7, 200):
                self.assertEqual(reply(*built(0, sample), worth(0, [0] * length)), [plain.worth(sample, [0] * length)])

    def test_a_sum_that_is_p_is_0(self):
        self.assertEqual(replies(*built(0, diagonal((1, P - 1), (1, 1))), *worths(0, [(), (0,)]))[-2:], [0, 0])
        self.assertEqual(reply(*built(0, diagonal((P - 1,), (P - 1,))), worth(0, (0,))), [1])

    def test_eight_states_and_three_letters(self):
        chance = random.Random(5)
        for round_number in range(5):
            sample = plain.zeros(8, 3)
            for k in range(24):
                sample[2][chance.randrange(3)][chance.randrange(8)][chance.randrange(8)] = chance.randrange(P)
            for i in range(8):
                sample[0][i], sample[1][i] = chance.randrange(P), P - 1 - chance.randrange(9)
            asked = [[chance.randrange(3) for k in range(length)] for length in (0, 1, 2, 3, 4, 8, 20, 200)]
            self.assertEqual(replies(*built(6, sample), *worths(6, asked))[-8:],
                             [plain.worth(sample, word) for word in asked])

    def test_reading_changes_nothing(self):
        asked = worths(0, [(0, 1), (1, 1, 0), ()])
        self.assertEqual(numbers_at(places_after(*built(0, SAMPLE), *asked), 0), SAMPLE)
        given = replies(*built(0, SAMPLE), *asked, *asked)
        self.assertEqual(given[-3:], given[-6:-3])

    def test_each_place_has_its_own(self):
        calls = [call for slot in range(8) for call in built(slot, constant(slot + 10, 1))]
        self.assertEqual(replies(*calls, *[worth(slot, (0, 0)) for slot in range(8)])[-8:], list(range(10, 18)))


class Refused(unittest.TestCase):
    def test_no_machine(self):
        for slot in range(8):
            others = [(NEW, k, 1, 1) for k in range(8) if k != slot]
            self.assertEqual(replies(*others, worth(slot, ()), worth(slot, (0,))), [0] * 7 + [-1, -1])

    def test_another_place(self):
        filled = [(NEW, k, 1, 1) for k in range(8)]
        for slot in OTHER_PLACES:
            self.assertEqual(replies(*filled, worth(slot, ()), worth(slot, (0,))), [0] * 8 + [-1, -1])

    def test_a_number_that_is_no_letter(self):
        for letters in (1, 2, 3):
            for a in range(letters):
                self.assertEqual(replies(*built(0, constant(9, letters)), worth(0, (a,)))[-1], 9)
            # More states than letters, so that one isn't taken for the other.
            for a in (letters, letters + 1, 7, 8, 254, 255):
                for word in ((a,), (a, 0), (0, a), (0, a, 0), (0,) * 199 + (a,), (a,) * 200):
                    self.assertEqual(replies((NEW, 0, 8, letters), worth(0, word)), [0, -1])

    def test_a_word_of_more_than_65536_letters(self):
        calls = [(BEGIN,)] + built(0, constant(9, 1))
        self.assertEqual(answers(flat(calls + [worth(0, [0] * 65536)]))[-2:], [1, 9])
        self.assertEqual(answers(flat(calls + [worth(0, [0] * 65537)]))[-2:], [1, -1])

    def test_a_machine_of_no_states(self):
        for letters in (1, 2, 3):
            self.assertEqual(replies(*nothing_at(0, letters), *worths(0, [(), (0,), (letters - 1,) * 200, (letters,)])),
                             [0, 0, 0, 0, 0, -1])

    def test_the_next_call_is_read_rightly_behind_a_refused_one(self):
        # What stands in the word would be a call if it were not passed over.
        looks_like_calls = (NEW, 0, 1, 1, BEGIN, BEGIN)
        for refused in (worth(5, looks_like_calls), worth(0, looks_like_calls), worth(-1, ()), worth(8, [0] * 200),
                        worth(0, (255,)), worth(LOWEST, (0, 255)), worth(HIGHEST, (1, 5))):
            self.assertEqual(replies(*built(0, constant(4, 1)), refused, worth(0, (0,)), (FIRST, 0, 0, 6), worth(0, ()))[-4:],
                             [-1, 4, 0, 6])

    def test_refused_changes_nothing(self):
        for refused in (worth(0, (2,)), worth(1, ()), worth(-1, (0,)), worth(8, ())):
            places = places_after(*built(0, SAMPLE), refused)
            self.assertEqual(numbers_at(places, 0), SAMPLE)
            self.assertEqual(places.machines[1:], [None] * 7)


class TheAnswer(unittest.TestCase):
    def test_is_one_number(self):
        calls = flat([(BEGIN,), (NEW, 0, 1, 1), (FIRST, 0, 0, 3), (LAST, 0, 0, 5), (HAND, 0, 0, 0, 0, 7)])
        self.assertEqual(answers(calls + [WORTH, 0, 2, 0, 0]), [1, 0] * 5 + [1, 3 * 5 * 7 * 7])
        self.assertEqual(answers(calls + [WORTH, 0, 0]), [1, 0] * 5 + [1, 15])

    def test_of_a_chain(self):
        for letters in (1, 2, 3):
            a = letters - 1
            for states in (1, 2, 8):
                calls = built(2, chain(states, letters, a)) + worths(2, [(a,) * k for k in range(10)])
                self.assertEqual(replies(*calls)[-10:], [int(k == states - 1) for k in range(10)])


if __name__ == "__main__":
    unittest.main()
