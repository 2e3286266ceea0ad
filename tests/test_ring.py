"""ring (c0, c1, ...)"""

import unittest

from ringcalls import FAR, SINGULAR, asked, ideal, prime, product, ring, split


def has_root(poly):
    return any(sum(c * x ** i for i, c in enumerate(poly)) == 0 for x in range(-20, 21))


def quartics_of_two_quadratics():
    """All c0 .. c3 from -20 to 20, c0 not 0, of products of two x x + a x + b."""
    found = set()
    for b in range(-20, 21):
        for d in range(-20, 21):
            if 1 <= abs(b * d) <= 20:
                for a in range(-45, 46):
                    for c in range(max(-45, -20 - a), min(45, 20 - a) + 1):
                        if abs(b + d + a * c) <= 20 and abs(a * d + b * c) <= 20:
                            found.add((b * d, a * d + b * c, b + d + a * c, a + c))
    return found


class Ring(unittest.TestCase):
    def test_two_three_and_four_numbers(self):
        self.assertEqual(asked(ring(2, 0)), [[0]])
        self.assertEqual(asked(ring(2, 0, 0)), [[0]])
        self.assertEqual(asked(ring(2, 0, 0, 0)), [[0]])

    def test_the_ring_is_that_of_the_numbers_in_order(self):
        self.assertEqual(asked(ring(5, 1), split(5))[1], [2, 1, 1, 1, 0, 1, 1, 1, 1])
        self.assertEqual(asked(ring(5, 1, 1, 3), split(2))[1], [1, 4, 1, 1, 1, 1, 1, 1])

    def test_fewer_than_two_and_more_than_four(self):
        self.assertEqual(asked(ring(), ring(1), ring(1, 0, 0, 0, 1), ring(1, 0, 0, 0, 0, 1)), [[-1]] * 4)

    def test_numbers_of_20_and_21(self):
        self.assertEqual(asked(ring(20, 0), ring(-20, 0), ring(1, 20), ring(1, -20)), [[0]] * 4)
        self.assertEqual(asked(ring(21, 0), ring(-21, 0), ring(1, 21), ring(1, -21)), [[-1]] * 4)
        self.assertEqual(asked(ring(1, 0, 0, 20), ring(1, 0, 0, -20), ring(2, 20, -20)), [[0]] * 3)
        self.assertEqual(asked(ring(1, 0, 0, 21), ring(1, 0, -21), ring(FAR, 1), ring(1, -FAR)), [[-1]] * 4)

    def test_parted_by_degree_1(self):
        self.assertEqual(asked(ring(0, 0), ring(0, 1), ring(-1, 0), ring(2, 3), ring(1, -2)), [[-3]] * 5)
        self.assertEqual(asked(ring(-20, 19), ring(-20, -19), ring(20, -12), ring(0, -20)), [[-3]] * 4)
        self.assertEqual(asked(ring(-8, 0, 0), ring(0, 1, 1), ring(-20, 1, -20), ring(20, 1, 20)), [[-3]] * 4)
        self.assertEqual(asked(ring(-1, 0, 0, 0), ring(0, 0, 0, 1), ring(-20, -19, 1, -20)), [[-3]] * 3)

    def test_degree_4_parted_without_a_root(self):
        self.assertEqual(asked(ring(4, 0, 0, 0), ring(1, 0, 2, 0), ring(1, 0, 1, 0), ring(6, 0, 5, 0)), [[-3]] * 4)
        self.assertEqual(asked(ring(1, 2, 3, 2), ring(-2, 0, 1, 0), ring(-15, 19, -8, 1), ring(15, 2, 7, 0)), [[-3]] * 4)

    def test_degree_4_not_parted(self):
        self.assertEqual(asked(ring(1, 0, 0, 0), ring(9, 0, 0, 0), ring(1, 1, 1, 1), ring(1, 0, -10, 0)), [[0]] * 4)

    def test_all_of_degree_2(self):
        parted = {(r * s, -r - s) for r in range(-500, 501) for s in range(-20, 21)}
        for c1 in range(-20, 21):
            calls = [(c0, c1) for c0 in range(-20, 21)]
            given = asked(*[ring(*c) for c in calls[:30]]) + asked(*[ring(*c) for c in calls[30:]])
            self.assertEqual(given, [[-3] if c in parted else [0] for c in calls])

    def test_many_of_degree_3(self):
        for k in range(0, 41 ** 3, 11):
            numbers = [k % 41 - 20, k // 41 % 41 - 20, k // 1681 - 20]
            self.assertEqual(asked(ring(*numbers)), [[-3 if has_root(numbers + [1]) else 0]], numbers)

    def test_many_of_degree_4(self):
        parted = quartics_of_two_quadratics()
        for numbers in sorted(parted)[::17]:
            self.assertEqual(asked(ring(*numbers)), [[-3]], numbers)
        for k in range(0, 41 ** 4, 1009):
            numbers = [k % 41 - 20, k // 41 % 41 - 20, k // 1681 % 41 - 20, k // 68921 - 20]
            expected = -3 if tuple(numbers) in parted or has_root(numbers + [1]) else 0
            self.assertEqual(asked(ring(*numbers)), [[expected]], numbers)

    def test_form_is_told_ahead_of_parting(self):
        self.assertEqual(asked(ring(0, 0, 0, 0, 0), ring(0, 21), ring(-21, 20), ring(0), ring(0, -21)), [[-1]] * 5)

    def test_a_ring_leaves_no_ideals(self):
        given = asked(prime(2, 0), ring(3, 0), product(0, 0), prime(2, 0), ring(3, 0), product(0, 0))
        self.assertEqual(given, [[0], [0], [-2], [0], [0], [-2]])
        self.assertEqual(asked(*[ideal(1, 0)] * 6, ideal(1, 0), ring(1, 0), ideal(1, 0))[6:], [[-5], [0], [0]])

    def test_a_refused_ring_leaves_all_as_it_was(self):
        for refused, number in ((ring(), -1), (ring(21, 0, 0), -1), (ring(0, 0, 0), -3), (ring(4, 0, 0, 0), -3)):
            given = asked(ring(3, 0), prime(2, 0), refused, SINGULAR, split(2), product(0, 0), ideal(1, 0, 0))
            self.assertEqual(given[2:], [[number], [1, 2], [1, 1, 2, 0, 1], [1], [-1]])

    def test_a_refused_ring_leaves_that_of_the_beginning(self):
        self.assertEqual(asked(ring(0, 0, 1), split(5), product(0, 0))[1:], [[2, 1, 1, 1, 2, 1, 1, 1, 3], [-2]])


if __name__ == "__main__":
    unittest.main()
