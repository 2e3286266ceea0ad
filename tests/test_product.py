"""product (i, j)"""

import unittest

from ringcalls import FAR, UNIT, asked, ideal, prime, product, ring, times, times_t
from ringideals.ideals import ideal_made_of, norm_of, prime_ideal, product_of


def number_times(a, b, coefficients):
    """The product of two numbers of the ring."""
    whole = [0] * len(coefficients)
    for c in b:
        whole = [x + c * y for x, y in zip(whole, a)]
        a = times_t(a, coefficients)
    return whole


class Product(unittest.TestCase):
    def test_of_two_and_of_one_with_itself(self):
        self.assertEqual(asked(prime(5, 0), prime(5, 1), product(0, 1), product(0, 0), product(2, 3)),
                         [[0], [1], [2], [3], [4]])

    def test_one_that_is_not_there(self):
        self.assertEqual(asked(product(0, 0), ideal(2, 0), product(0, 1), product(1, 0), product(1, 1),
                               product(0, FAR), product(FAR, 0), product(0, 0)),
                         [[-2], [0], [-2], [-2], [-2], [-2], [-2], [1]])

    def test_the_seventh(self):
        self.assertEqual(asked(*[UNIT] * 5, product(0, 4), product(0, 5), product(5, 5))[5:], [[5], [-5], [-5]])

    def test_a_norm_above_10_to_the_9(self):
        # 10 to the 4, by itself 10 to the 8; that by 13 is above it, by 9 below it, by 10 just 10 to the 9.
        given = asked(ideal(100, 0), product(0, 0), ideal(3, 1), ideal(3, 2), ideal(3, 0),
                      product(1, 3), product(3, 1), product(1, 4), product(1, 2))
        self.assertEqual(given, [[0], [1], [2], [3], [4], [-8], [-8], [5], [-5]])
        self.assertEqual(asked(ideal(100, 0), product(0, 0), ideal(3, 1), product(1, 2), product(1, 1)),
                         [[0], [1], [2], [3], [-8]])

    def test_a_norm_one_above(self):
        # Norms of 19, 1001 and 52579: together 1000000001.
        given = asked(ring(-7, -19), ideal(-97, 5), ideal(-7, 6), ideal(62, 95), product(0, 1), product(2, 3))
        self.assertEqual(given, [[0], [0], [1], [2], [3], [-8]])
        norms = [norm_of(ideal_made_of([number], [-7, -19, 1])) for number in ([-97, 5], [-7, 6], [62, 95])]
        self.assertEqual(norms, [19, 1001, 52579])

    def test_the_ideals_are_there_ahead_of_room_and_norm(self):
        full = [ideal(100, 0), product(0, 0), UNIT, UNIT, UNIT, UNIT]
        self.assertEqual(asked(*full, product(1, 6), product(6, 1), product(1, 1))[6:], [[-2], [-2], [-5]])
        self.assertEqual(asked(*full[:5], product(1, 5), product(1, 1), UNIT, product(1, 1))[5:],
                         [[-2], [-8], [5], [-5]])

    def test_a_refused_one_is_not_kept(self):
        self.assertEqual(asked(ideal(100, 0), product(0, 0), product(1, 1), product(0, 2), UNIT)[2:],
                         [[-8], [-2], [2]])

    def test_the_norm_is_that_of_the_product(self):
        # The norm of that of 2 and 1 + t is 2, but multiplied by itself 8 instead of 4: 8 by 4375 by 40000.
        given = asked(ring(3, 0), prime(2, 0), ideal(100, 50, -25, 75), ideal(100, 100), product(1, 2), product(0, 3))
        self.assertEqual(given, [[0], [0], [1], [2], [3], [-8]])
        poly = [3, 0, 1]
        by_hand = product_of(prime_ideal(2, [1, 1], poly), prime_ideal(2, [1, 1], poly), poly)
        self.assertEqual(by_hand, [[4, 0], [2, 2]])

    def test_rows(self):
        poly = [1, 0, 1]
        self.assertEqual(product_of([[5, 0], [2, 1]], [[5, 0], [3, 1]], poly), [[5, 0], [0, 5]])
        self.assertEqual(product_of([[5, 0], [2, 1]], [[5, 0], [2, 1]], poly), [[25, 0], [7, 1]])
        self.assertEqual(product_of([[2, 0], [1, 1]], [[2, 0], [1, 1]], poly), [[2, 0], [0, 2]])
        self.assertEqual(product_of([[1, 0], [0, 1]], [[5, 0], [3, 1]], poly), [[5, 0], [3, 1]])

    def test_of_those_made_of_one_number_each(self):
        for coefficients in ((1, 0), (16, 16), (-8, -2, -1), (20, -19, 20), (16, 8, 4, 2), (-20, 20, 20, 19)):
            poly = list(coefficients) + [1]
            some = [[k * k % 11 - 4, 3 - k, k % 3 - 1, 2 * k - 9][:len(coefficients)] for k in range(9)]
            for a in some:
                for b in some:
                    both = number_times(a, b, coefficients)
                    given = product_of(ideal_made_of([a], poly), ideal_made_of([b], poly), poly)
                    self.assertEqual(given, ideal_made_of([both], poly))

    def test_is_made_of_the_products_of_what_both_are_made_of(self):
        for coefficients in ((3, 0), (-8, -2, -1), (16, 8, 4, 2)):
            poly = list(coefficients) + [1]
            n = len(coefficients)
            left = [[6, -2, 4, 0][:n], [0, 8, 2, 2][:n]]
            right = [[12, 0, 0, 0][:n], [3, 3, -9, 6][:n]]
            every = [number_times(a, b, coefficients) for a in left for b in right]
            given = product_of(ideal_made_of(left, poly), ideal_made_of(right, poly), poly)
            self.assertEqual(given, ideal_made_of(every, poly))
            self.assertEqual(given, product_of(ideal_made_of(right, poly), ideal_made_of(left, poly), poly))

    def test_oracle(self):
        self.assertEqual(times([1, 1], [2, 0, 1]), [2, 2, 1, 1])
        self.assertEqual(number_times([0, 1], [0, 1], (1, 0)), [-1, 0])


if __name__ == "__main__":
    unittest.main()
