"""told (i)"""

import unittest

from ringcalls import DROP, FAR, UNIT, asked, ideal, ideals_of_norm, joined, prime, product, ring, told
from ringideals.ideals import ideal_made_of, product_of
from ringideals.rings import answers


class Told(unittest.TestCase):
    def test_made_of_numbers(self):
        self.assertEqual(asked(ideal(3, 1), told(0))[1], [10, 10, 0, 3, 1])
        self.assertEqual(asked(ideal(3, -1), told(0))[1], [10, 10, 0, 7, 1])
        self.assertEqual(asked(ideal(4, 0, 0, 6), told(0))[1], [4, 2, 0, 0, 2])
        self.assertEqual(asked(ring(2, 0, 0), ideal(2, 1, 0), told(0))[2], [6, 6, 0, 0, 2, 1, 0, 2, 0, 1])
        self.assertEqual(asked(ring(1, 0, 0, 0), ideal(1, 1, 0, 0), told(0))[2],
                         [2, 2, 0, 0, 0, 1, 1, 0, 0, 1, 0, 1, 0, 1, 0, 0, 1])

    def test_the_whole_ring(self):
        self.assertEqual(asked(UNIT, told(0))[1], [1, 1, 0, 0, 1])
        self.assertEqual(asked(ideal(0, -1), told(0))[1], [1, 1, 0, 0, 1])
        self.assertEqual(asked(ring(1, 0, 0, 0), ideal(2, 0, 0, 0, 0, 0, 3, 0), told(0))[2],
                         [1, 1, 0, 0, 0, 0, 1, 0, 0, 0, 0, 1, 0, 0, 0, 0, 1])

    def test_of_primes(self):
        self.assertEqual(asked(prime(5, 0), prime(5, 1), prime(3, 0), told(1), told(2), told(0))[3:],
                         [[5, 5, 0, 3, 1], [9, 3, 0, 0, 3], [5, 5, 0, 2, 1]])
        self.assertEqual(asked(ring(2, 0, 0), prime(5, 1), told(0))[2], [25, 5, 0, 0, 0, 5, 0, 4, 2, 1])
        self.assertEqual(asked(ring(1, 0, 0, 0), prime(3, 0), told(0))[2],
                         [9, 3, 0, 0, 0, 0, 3, 0, 0, 2, 1, 1, 0, 1, 1, 0, 1])

    def test_of_products(self):
        self.assertEqual(asked(prime(5, 0), product(0, 0), prime(5, 1), product(2, 0), told(1), told(3))[4:],
                         [[25, 25, 0, 7, 1], [25, 5, 0, 0, 5]])
        self.assertEqual(asked(ring(2, 0, 0), prime(5, 0), prime(5, 1), product(0, 1), product(1, 2), told(3))[5],
                         [3125, 25, 0, 0, 0, 25, 0, 20, 10, 5])
        self.assertEqual(asked(ring(1, 0, 0, 0), prime(3, 0), ideal(1, 1, 0, 0), product(0, 1), told(2))[4],
                         [18, 6, 0, 0, 0, 3, 3, 0, 0, 2, 1, 1, 0, 4, 1, 0, 1])

    def test_the_norm_of_a_product_may_be_more_than_that_of_both(self):
        self.assertEqual(asked(ring(3, 0), prime(2, 0), product(0, 0), told(0), told(1))[3:],
                         [[2, 2, 0, 1, 1], [8, 4, 0, 2, 2]])

    def test_a_norm_of_10_to_the_9(self):
        given = asked(ring(9, 0, 0, 0), ideal(100, 100, 0, 0), told(0))[2]
        self.assertEqual(given, [1000000000, 1000, 0, 0, 0, 100, 100, 0, 0, 900, 0, 100, 0, 100, 0, 0, 100])

    def test_one_that_is_not_there(self):
        self.assertEqual(asked(told(0), UNIT, told(1), told(FAR), told(0), DROP, told(0)),
                         [[-2], [0], [-2], [-2], [1, 1, 0, 0, 1], [0], [-2]])
        self.assertEqual(asked(UNIT, UNIT, ring(3, 0), told(0), told(1))[3:], [[-2], [-2]])

    def test_how_many_numbers_stand_there(self):
        self.assertEqual(answers(joined(ideal(2, 0), told(0), told(1))), [1, 0, 5, 4, 2, 0, 0, 2, 1, -2])
        self.assertEqual(answers(joined(ring(2, 0, 0, 0), ideal(1, 0, 0, 0), told(0)))[4], 17)

    def test_is_told_the_same_again(self):
        given = asked(ideal(6, 2), told(0), product(0, 0), told(0), prime(2, 0), ideal(0, 0), DROP, told(0))
        self.assertEqual(given[1], given[3])
        self.assertEqual(given[1], given[7])

    def test_by_another_way(self):
        # Each row of an ideal is told again as it is found by trying all rows.
        for coefficients, norm in (((1, 0), 50), ((3, 0), 28), ((-8, -2, -1), 16), ((2, 0, 0), 30)):
            for rows in ideals_of_norm(norm, coefficients):
                places = joined(*rows)
                self.assertEqual(asked(ring(*coefficients), ideal(*places), told(0))[2], [norm] + places)

    def test_as_the_rows_are(self):
        poly = [-2, 13, -19, 9, 1]
        a = ideal_made_of([[3, 5, 0, 1], [9, 0, 0, 6]], poly)
        both = product_of(a, ideal_made_of([[2, 0, 1, 0]], poly), poly)
        given = asked(ring(*poly[:4]), ideal(3, 5, 0, 1, 9, 0, 0, 6), ideal(2, 0, 1, 0), product(0, 1), told(0), told(2))
        self.assertEqual([given[4][1:], given[5][1:]], [joined(*a), joined(*both)])


if __name__ == "__main__":
    unittest.main()
