"""parted (i)"""

import unittest

from ringcalls import (DROP, FAR, UNIT, asked, ideal, ideals_of_norm, joined, often, parted, prime, product, ring, told,
                       told_split)
from ringideals.ideals import prime_ideal, product_of

AWKWARD = ring(-8, -2, -1)  # by 2: x twice, not regular, and 1 + x, regular


def multiplied_primes(found, coefficients):
    """The rows of the product of the prime ideals that are told, each so often."""
    poly = list(coefficients) + [1]
    n = len(coefficients)
    rows = [[int(i == j) for j in range(n)] for i in range(n)]
    for p, number, times in zip(found[::3], found[1::3], found[2::3]):
        part = told_split(coefficients, p)[number][2]
        for _ in range(times):
            rows = product_of(rows, prime_ideal(p, part, poly), poly)
    return rows


class Parted(unittest.TestCase):
    def test_the_whole_ring(self):
        self.assertEqual(asked(UNIT, parted(0), ideal(2, 0, 3, 0), parted(1)), [[0], [0], [1], [0]])
        self.assertEqual(asked(ring(3, 0), UNIT, parted(0))[2], [0])
        self.assertEqual(asked(ring(2, 0, 0, 0), ideal(1, 0, 0, 0), parted(0))[2], [0])

    def test_a_prime(self):
        self.assertEqual(asked(prime(5, 1), parted(0), prime(3, 0), parted(1), prime(47, 0), parted(2)),
                         [[0], [1, 5, 1, 1], [1], [1, 3, 0, 1], [2], [1, 47, 0, 1]])

    def test_several_prime_numbers_and_several_parts_of_one(self):
        self.assertEqual(asked(ideal(30, 0), parted(0))[1], [4, 2, 0, 2, 3, 0, 1, 5, 0, 1, 5, 1, 1])
        self.assertEqual(asked(ideal(100, 100), parted(0))[1], [3, 2, 0, 5, 5, 0, 2, 5, 1, 2])
        self.assertEqual(asked(ideal(10, 5), parted(0))[1], [2, 5, 0, 2, 5, 1, 1])
        self.assertEqual(asked(ring(3, 1, -7, -11), ideal(7, 0, 0, 0), parted(0))[2],
                         [4, 7, 0, 1, 7, 1, 1, 7, 2, 1, 7, 3, 1])

    def test_a_part_that_is_not_the_first(self):
        self.assertEqual(asked(ideal(3, 1), parted(0), ideal(2, 1), parted(1))[1::2],
                         [[2, 2, 0, 1, 5, 1, 1], [1, 5, 0, 1]])

    def test_how_often(self):
        self.assertEqual(asked(ring(2, 0, 0, 0), ideal(100, 0, 0, 0), parted(0))[2], [2, 2, 0, 8, 5, 0, 2])
        given = asked(ring(2, 0, 0, 0), ideal(64, 0, 0, 0), ideal(2, 0, 0, 0), product(0, 1), parted(2))
        self.assertEqual(given[4], [1, 2, 0, 28])
        given = asked(ring(2, 0, 0), prime(5, 0), prime(5, 1), product(0, 1), product(1, 2), parted(3))
        self.assertEqual(given[5], [2, 5, 0, 1, 5, 1, 2])

    def test_the_order_is_that_of_p_whatever_was_multiplied_first(self):
        given = asked(prime(5, 1), prime(3, 0), prime(5, 0), product(0, 1), product(3, 2), parted(4))
        self.assertEqual(given[5], [3, 3, 0, 1, 5, 0, 1, 5, 1, 1])

    def test_a_norm_with_a_prime_divisor_above_47(self):
        self.assertEqual(asked(ideal(53, 0), parted(0), ideal(7, 2), parted(1), ideal(94, 0), parted(2)),
                         [[0], [-9], [1], [-9], [2], [2, 2, 0, 2, 47, 0, 1]])
        # 5 by 53, and 59 by itself
        self.assertEqual(asked(ideal(16, 3), told(0), parted(0))[1:], [[265, 265, 0, 182, 1], [-9]])
        self.assertEqual(asked(ideal(59, 0), parted(0))[1], [-9])

    def test_one_that_is_not_regular(self):
        self.assertEqual(asked(ring(3, 0), prime(2, 0), parted(0), ideal(2, 0), parted(1), ideal(42, 0), parted(2))[1:],
                         [[0], [-6], [1], [-6], [2], [-6]])
        self.assertEqual(asked(AWKWARD, prime(2, 0), prime(2, 1), product(0, 1), parted(2), parted(0))[4:],
                         [[-6], [-6]])
        self.assertEqual(asked(ring(5, 2, 3, 2), prime(2, 0), parted(0))[2], [-6])
        self.assertEqual(asked(ring(-11, 1, -13), ideal(47, 0, 0), parted(0), prime(47, 1), parted(1))[1:],
                         [[0], [-6], [1], [-6]])

    def test_only_those_that_have_all_its_numbers_are_to_be_regular(self):
        self.assertEqual(asked(AWKWARD, prime(2, 1), parted(0), product(0, 0), told(1), parted(1))[1:],
                         [[0], [1, 2, 1, 1], [1], [4, 4, 0, 0, 1, 1, 0, 3, 0, 1], [1, 2, 1, 2]])
        self.assertEqual(asked(ring(-11, 1, -13), prime(47, 0), parted(0))[2], [1, 47, 0, 1])

    def test_another_singular_prime_number_is_of_no_account(self):
        self.assertEqual(asked(ring(3, 0), ideal(21, 0), parted(0))[2], [3, 3, 0, 2, 7, 0, 1, 7, 1, 1])

    def test_the_norm_ahead_of_regular(self):
        given = asked(ring(3, 0), prime(2, 0), ideal(53, 0), product(0, 1), parted(2), ideal(8, 1), told(3), parted(3))
        self.assertEqual(given[4:], [[-9], [3], [67, 67, 0, 8, 1], [-9]])
        given = asked(ring(-11, 1, -13), prime(47, 1), ideal(53, 0, 0), product(0, 1), parted(2), parted(0))
        self.assertEqual(given[4:], [[-9], [-6]])

    def test_no_such_ideal(self):
        self.assertEqual(asked(parted(0), UNIT, parted(1), parted(FAR), DROP, parted(0)),
                         [[-2], [0], [-2], [-2], [0], [-2]])
        self.assertEqual(asked(UNIT, ring(1, 0), parted(0))[2], [-2])

    def test_the_ideal_ahead_of_the_norm_and_of_regular(self):
        self.assertEqual(asked(ideal(53, 0), parted(0), parted(1)), [[0], [-9], [-2]])
        self.assertEqual(asked(ring(3, 0), ideal(2, 0), parted(0), parted(1))[2:], [[-6], [-2]])

    def test_leaves_all_as_it_is(self):
        given = asked(ideal(6, 2), told(0), parted(0), ideal(53, 0), parted(1), told(0), UNIT)
        self.assertEqual(given[1], given[5])
        self.assertEqual(given[6], [2])

    def test_how_often_is_as_often_tells(self):
        # 5 (3 + t t + 2 t t t): the norm of the latter is 164.
        given = asked(ring(1, 0, 0, 0), ideal(15, 0, 5, 10), parted(0))[2]
        self.assertEqual(given, [4, 2, 0, 2, 5, 0, 1, 5, 1, 1, 41, 1, 1])
        asks = [often(0, p, k) for p, k in ((2, 0), (5, 0), (5, 1), (41, 1), (41, 0), (3, 0))]
        self.assertEqual(asked(ring(1, 0, 0, 0), ideal(15, 0, 5, 10), *asks)[2:], [[2], [1], [1], [1], [0], [0]])

    def test_all_primes_multiplied_are_the_ideal(self):
        for coefficients, norm in (((1, 0), 50), ((1, 0), 36), ((3, 0), 63), ((16, 16), 36), ((-8, -2, -1), 16),
                                   ((2, 0, 0), 30), ((2, 0, 0), 27)):
            for rows in ideals_of_norm(norm, coefficients):
                answer = asked(ring(*coefficients), ideal(*joined(*rows)), parted(0))[2]
                if answer != [-6]:
                    self.assertEqual(len(answer), 1 + 3 * answer[0])
                    self.assertEqual(multiplied_primes(answer[1:], coefficients), rows, (coefficients, rows))

    def test_both_sorts_are_among_those(self):
        rings = ((1, 0), (-8, -2, -1))
        norms = (50, 16)
        refused = [sum(asked(ring(*c), ideal(*joined(*rows)), parted(0))[2] == [-6] for rows in ideals_of_norm(m, c))
                   for c, m in zip(rings, norms)]
        self.assertEqual(refused[0], 0)
        self.assertTrue(0 < refused[1] < len(ideals_of_norm(16, rings[1])))


if __name__ == "__main__":
    unittest.main()
