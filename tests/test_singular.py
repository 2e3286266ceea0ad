"""singular ()"""

import unittest

from ringcalls import PRIMES, SINGULAR, asked, ideal, product, ring, told_split
from ringideals.ideals import norm_of, prime_ideal, product_of

RINGS = ((1, 0), (3, 0), (16, 16), (-17, -20), (-8, -2, -1), (8, -19, 18), (-11, 1, -13), (8, 4, 4),
         (17, 12, 16, 4), (16, 8, 4, 2), (9, 0, 0, 0), (5, 2, 3, 2), (8, -12, -12, -20), (-2, 13, -19, 9))


class Singular(unittest.TestCase):
    def check(self, coefficients, found):
        self.assertEqual(asked(ring(*coefficients), SINGULAR), [[0], [len(found)] + found])

    def test_at_the_beginning(self):
        self.assertEqual(asked(SINGULAR, SINGULAR), [[0], [0]])

    def test_none(self):
        self.check((-1, -1), [])
        self.check((2, 0, 0), [])
        self.check((1, 1, 1, 1), [])

    def test_one(self):
        self.check((3, 0), [2])
        self.check((-8, -2, -1), [2])
        self.check((-18, 0), [3])
        self.check((-11, 1, -13), [47])

    def test_several_rising(self):
        self.check((-17, -20), [2, 3])
        self.check((8, -19, 18), [2, 5])
        self.check((17, 12, 16, 4), [3, 5, 7])

    def test_after_a_refused_ring(self):
        self.assertEqual(asked(ring(3, 0), ring(0, 0), SINGULAR), [[0], [-3], [1, 2]])

    def test_leaves_the_ideals(self):
        self.assertEqual(asked(ideal(2, 0), SINGULAR, product(0, 0)), [[0], [0], [1]])

    def test_as_split_tells(self):
        for coefficients in RINGS:
            found = [p for p in PRIMES if not all(regular for _, regular, _ in told_split(coefficients, p))]
            self.check(coefficients, found)

    def test_regular_is_one_that_can_be_turned_over(self):
        # An ideal over a prime can be turned over just if its norm is taken twice where it is multiplied by itself.
        for coefficients in RINGS:
            poly = list(coefficients) + [1]
            for p in PRIMES:
                for _, regular, part in told_split(coefficients, p):
                    rows = prime_ideal(p, part, poly)
                    self.assertEqual(norm_of(rows), p ** (len(part) - 1))
                    twice = norm_of(product_of(rows, rows, poly))
                    self.assertEqual(regular, 1 if twice == norm_of(rows) ** 2 else 0, (coefficients, p, part))


if __name__ == "__main__":
    unittest.main()
