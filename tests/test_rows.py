"""Numbers modulo p and spaces of rows, which apart and least rest on."""

import unittest

from tests.calls import P
from wordworths.rows import Space, inverse, sum_of_multiples


class Inverse(unittest.TestCase):
    def test_gives_1_when_multiplied(self):
        for x in (1, 2, 3, 46341, 65536, (P - 1) // 2, P - 2, P - 1):
            self.assertEqual(inverse(x), pow(x, -1, P))


class SumOfMultiples(unittest.TestCase):
    def test_is_modulo_p(self):
        self.assertEqual(sum_of_multiples([P - 1, 0, 2], [[P - 1, 1], [5, 5], [3, P - 4]], 2), [7, P - 9])

    def test_of_no_rows_is_as_wide_as_asked(self):
        self.assertEqual(sum_of_multiples([], [], 3), [0, 0, 0])


class Spaces(unittest.TestCase):
    def test_a_row_that_is_there_already_does_not_make_it_grow(self):
        space = Space()
        for row, grows in (([0, 0, 0], False), ([0, 2, 4], True), ([0, P - 1, P - 2], False), ([3, 1, 0], True),
                           ([6, 4, 4], False), ([P - 3, 1, 4], False), ([0, 0, 1], True), ([8, 9, 10], False)):
            self.assertIs(space.grows_by(row), grows)

    def test_rows_have_1_at_their_own_pivot_and_0_at_the_others(self):
        space = Space()
        for row in ([5, 6, 7, 8], [5, 6, 7, 9], [1, P - 1, 2, 2]):
            space.grows_by(row)
            for k, own in enumerate(space.rows):
                self.assertEqual(space.factors(own), [int(k == j) for j in range(len(space.rows))])
                self.assertTrue(all(0 <= x < P for x in own))

    def test_a_row_is_the_sum_of_its_factors_times_the_rows(self):
        space = Space()
        rows = [[0, 3, 1, 9], [0, 4, 4, 4], [0, 7, 5, 13]]
        for row in rows:
            space.grows_by(row)
        self.assertEqual(len(space.rows), 2)
        for row in rows:
            self.assertEqual(sum_of_multiples(space.factors(row), space.rows, 4), row)


if __name__ == "__main__":
    unittest.main()
