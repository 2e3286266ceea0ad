"""prime (p, a part)"""

import unittest

from ringcalls import FAR, UNIT, asked, ideal, prime, product, ring, split
from ringideals.ideals import prime_ideal


class Prime(unittest.TestCase):
    def test_each_part_is_kept(self):
        self.assertEqual(asked(prime(5, 0), prime(5, 1), prime(2, 0), prime(47, 0)), [[0], [1], [2], [3]])
        given = asked(ring(3, 1, -7, -11), prime(7, 0), prime(7, 1), prime(7, 2), prime(7, 3), prime(7, 4))
        self.assertEqual(given, [[0], [0], [1], [2], [3], [-3]])

    def test_kept_beside_others(self):
        self.assertEqual(asked(ideal(2, 0), prime(3, 0), product(0, 1), prime(3, 0)), [[0], [1], [2], [3]])

    def test_its_rows(self):
        self.assertEqual(prime_ideal(5, [2, 1], [1, 0, 1]), [[5, 0], [2, 1]])
        self.assertEqual(prime_ideal(5, [3, 1], [1, 0, 1]), [[5, 0], [3, 1]])
        self.assertEqual(prime_ideal(3, [1, 0, 1], [1, 0, 1]), [[3, 0], [0, 3]])
        self.assertEqual(prime_ideal(2, [0, 1], [-8, -2, -1, 1]), [[2, 0, 0], [0, 1, 0], [0, 0, 1]])
        self.assertEqual(prime_ideal(5, [4, 2, 1], [2, 0, 0, 1]), [[5, 0, 0], [0, 5, 0], [4, 2, 1]])
        self.assertEqual(prime_ideal(7, [2, 0, 0, 1], [2, 0, 0, 1]), [[7, 0, 0], [0, 7, 0], [0, 0, 7]])
        self.assertEqual(prime_ideal(3, [2, 2, 1], [1, 0, 0, 0, 1]),
                         [[3, 0, 0, 0], [0, 3, 0, 0], [2, 2, 1, 0], [2, 1, 0, 1]])

    def test_that_of_the_part_of_this_number(self):
        # By 3 there is a part of degree 1, then one of degree 3: with 10 to the 8, norms of 3 and of 27 times that.
        chosen = (-4, 2, 13, -19)
        self.assertEqual(asked(ring(*chosen), split(3))[1], [2, 1, 1, 1, 1, 3, 1, 1, 2, 0, 1])
        given = asked(ring(*chosen), prime(3, 0), ideal(100, 0, 0, 0), product(0, 1), product(0, 2), product(0, 3))
        self.assertEqual(given[1:], [[0], [1], [2], [3], [-8]])
        self.assertEqual(asked(ring(*chosen), prime(3, 1), ideal(100, 0, 0, 0), product(0, 1))[1:], [[0], [1], [-8]])

    def test_a_part_that_is_not_there(self):
        self.assertEqual(asked(prime(2, 1), prime(5, 2), prime(3, 1), prime(47, FAR), prime(5, 1)), [[-3]] * 4 + [[0]])

    def test_no_prime_number_up_to_47(self):
        wrong = (0, 1, 4, 9, 45, 46, 48, 49, 53, FAR)
        self.assertEqual(asked(*[prime(p, 0) for p in wrong]), [[-1]] * len(wrong))

    def test_p_ahead_of_the_part(self):
        self.assertEqual(asked(prime(4, 7), prime(53, FAR), prime(0, 1)), [[-1]] * 3)

    def test_the_sixth_and_a_seventh(self):
        self.assertEqual(asked(*[prime(2, 0)] * 8), [[0], [1], [2], [3], [4], [5], [-5], [-5]])

    def test_p_and_the_part_ahead_of_room(self):
        self.assertEqual(asked(*[UNIT] * 6, prime(4, 0), prime(2, 1), prime(4, 1), prime(2, 0))[6:],
                         [[-1], [-3], [-1], [-5]])

    def test_refused_ones_are_not_kept(self):
        self.assertEqual(asked(prime(2, 1), prime(1, 0), product(0, 0), prime(2, 0)), [[-3], [-1], [-2], [0]])


if __name__ == "__main__":
    unittest.main()
