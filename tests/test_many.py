"""many (m)"""

import unittest

from ringcalls import FAR, PRIMES, SINGULAR, UNIT, asked, ideals_of_norm, many, ring, split, told


def prime_numbers_in(m):
    return [p for p in range(2, m + 1) if m % p == 0 and all(p % q for q in range(2, p))]


class Many(unittest.TestCase):
    def test_1(self):
        self.assertEqual(asked(many(1)), [[1]])
        self.assertEqual(asked(ring(3, 0), many(1), ring(17, 12, 16, 4), many(1))[1::2], [[1], [1]])

    def test_a_prime_number(self):
        self.assertEqual(asked(*[many(p) for p in (2, 3, 5, 7, 13, 47)]), [[1], [0], [2], [0], [2], [0]])
        self.assertEqual(asked(ring(-2, 0), many(47), many(2), many(3))[1:], [[2], [1], [0]])
        self.assertEqual(asked(ring(2, 0, 0), many(2), many(5), many(7))[1:], [[1], [1], [0]])
        self.assertEqual(asked(ring(3, 1, -7, -11), many(7))[1], [4])

    def test_powers(self):
        self.assertEqual(asked(many(4), many(8), many(65536), many(9), many(27), many(81), many(25), many(125)),
                         [[1], [1], [1], [1], [0], [1], [3], [4]])
        # By 5 one part of degree 1 and one of degree 2: 5^4 is 4 ones, 2 ones and 1 two, or 2 twos.
        self.assertEqual(asked(ring(2, 0, 0), many(25), many(125), many(625), many(343))[1:], [[2], [2], [3], [1]])
        self.assertEqual(asked(ring(3, 1, -7, -11), many(49), many(343), many(16807))[1:], [[10], [20], [56]])
        self.assertEqual(asked(ring(1, 1, 1, 1), many(16), many(81), many(27), many(11), many(121))[1:],
                         [[1], [1], [0], [4], [10]])

    def test_products_of_several_prime_numbers(self):
        self.assertEqual(asked(many(65), many(650), many(90), many(30), many(1105), many(5 * 13 * 25)),
                         [[4], [6], [2], [0], [8], [8]])
        self.assertEqual(asked(ring(1, 1, 1, 1), many(55), many(80), many(1331 * 31))[1:], [[4], [1], [80]])

    def test_a_norm_that_no_ideal_has(self):
        self.assertEqual(asked(many(3), many(6), many(15), many(2209), many(47), many(30030)),
                         [[0], [0], [0], [1], [0], [0]])
        self.assertEqual(asked(ring(2, 0, 0), many(7), many(49), many(98))[1:], [[0]] * 3)

    def test_the_greatest_and_above(self):
        self.assertEqual(asked(many(100000), many(99999), many(100001), many(100002), many(FAR), many(100008)),
                         [[6], [-9], [-1], [-1], [-1], [-1]])
        self.assertEqual(asked(ring(2, 0, 0), many(100000))[1], [3])

    def test_0(self):
        self.assertEqual(asked(many(0), ring(3, 0), many(0)), [[-1], [0], [-1]])

    def test_a_prime_divisor_above_47(self):
        self.assertEqual(asked(many(53), many(106), many(53 * 53), many(47 * 53), many(97 * 1009), many(99991)),
                         [[-9]] * 6)

    def test_a_singular_prime_divisor(self):
        self.assertEqual(asked(ring(3, 0), many(2), many(4), many(6), many(14), many(3), many(7), many(49), many(91))[1:],
                         [[-6], [-6], [-6], [-6], [1], [2], [3], [4]])
        given = asked(ring(17, 12, 16, 4), SINGULAR, many(3), many(5), many(7), many(33), many(2), many(16), many(169))
        self.assertEqual(given[1:], [[3, 3, 5, 7], [-6], [-6], [-6], [-6], [1], [1], [2]])
        self.assertEqual(asked(ring(-11, 1, -13), many(47), many(94))[1:], [[-6], [-6]])

    def test_a_singular_one_with_a_regular_part_too(self):
        self.assertEqual(asked(ring(-8, -2, -1), split(2), many(2), many(8))[1:],
                         [[2, 1, 2, 0, 0, 1, 1, 1, 1], [-6], [-6]])

    def test_a_divisor_above_47_ahead_of_a_singular_one(self):
        self.assertEqual(asked(ring(3, 0), many(106), many(53), many(2 * 47), many(4 * 59))[1:],
                         [[-9], [-9], [-6], [-9]])

    def test_the_reach_ahead_of_both(self):
        # 100006 is 2 by 31 by 1613, 131072 is 2 to the 17.
        self.assertEqual(asked(ring(3, 0), many(100006), many(131072), many(65536))[1:], [[-1], [-1], [-6]])

    def test_keeps_none(self):
        self.assertEqual(asked(many(5), told(0), UNIT, many(5), many(0), UNIT), [[2], [-2], [0], [2], [-1], [1]])

    def test_by_trying_all_rows(self):
        for coefficients, greatest in (((1, 0), 100), ((3, 0), 60), ((-17, -20), 60), ((2, 0, 0), 32),
                                       ((-8, -2, -1), 27), ((-15, 6, -10), 25), ((1, 0, 0, 0), 10), ((3, 1, -7, -11), 9)):
            singular = asked(ring(*coefficients), SINGULAR)[1][1:]
            for m in range(1, greatest + 1):
                primes = prime_numbers_in(m)
                if not all(p in PRIMES for p in primes):
                    expected = -9
                elif any(p in singular for p in primes):
                    expected = -6
                else:
                    expected = len(ideals_of_norm(m, coefficients))
                self.assertEqual(asked(ring(*coefficients), many(m))[1], [expected], (coefficients, m))


if __name__ == "__main__":
    unittest.main()
