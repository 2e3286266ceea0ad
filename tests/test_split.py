"""split (p): the parts by p, their order, and which are regular."""

import unittest

from ringcalls import FAR, PRIMES, asked, product, ring, split, times, told_split

RINGS = ((1, 0), (3, 0), (-17, -20), (16, 16), (-8, -2, -1), (2, 0, 0), (8, -19, 18), (-11, 1, -13), (-15, 6, -10),
         (17, 12, 16, 4), (1, 0, 0, 0), (9, 0, 0, 0), (16, 8, 4, 2), (3, 1, -7, -11), (8, -12, -12, -20),
         (1, 17, -2, 2), (17, -20, 18, 1), (-20, 20, 20, 19))


def monics(degree, p):
    """All of the degree modulo p with the highest coefficient 1."""
    if degree == 0:
        return [[1]]
    return [[c] + poly for poly in monics(degree - 1, p) for c in range(p)]


def partable(p):
    """All of degree 2 to 4 modulo p that can be parted modulo p."""
    found = set()
    for low in (1, 2):
        for high in range(low, 5 - low):
            for a in monics(low, p):
                for b in monics(high, p):
                    found.add(tuple(c % p for c in times(a, b)))
    return found


class Split(unittest.TestCase):
    def check(self, coefficients, p, answer):
        self.assertEqual(asked(ring(*coefficients), split(p)), [[0], answer])

    def test_degree_2(self):
        self.check((1, 0), 2, [1, 1, 2, 1, 1])
        self.check((1, 0), 5, [2, 1, 1, 1, 2, 1, 1, 1, 3])
        self.check((1, 0), 3, [1, 2, 1, 1, 1, 0])
        self.check((3, 0), 2, [1, 1, 2, 0, 1])
        self.check((-1, -1), 2, [1, 2, 1, 1, 1, 1])
        self.check((-1, -1), 5, [1, 1, 2, 1, 2])

    def test_degree_3(self):
        self.check((-15, 6, -10), 5, [3, 1, 1, 1, 0, 1, 1, 1, 2, 1, 1, 1, 3])
        self.check((-8, -2, -1), 2, [2, 1, 2, 0, 0, 1, 1, 1, 1])
        self.check((2, 0, 0), 2, [1, 1, 3, 1, 0])
        self.check((2, 0, 0), 3, [1, 1, 3, 1, 2])
        self.check((-1, -19, 3), 2, [1, 1, 3, 0, 1])
        self.check((2, 0, 0), 5, [2, 1, 1, 1, 3, 2, 1, 1, 4, 2])
        self.check((2, 0, 0), 7, [1, 3, 1, 1, 2, 0, 0])

    def test_degree_4(self):
        self.check((3, 1, -7, -11), 7, [4, 1, 1, 1, 1, 1, 1, 1, 2, 1, 1, 1, 3, 1, 1, 1, 4])
        self.check((7, -3, -14, 4), 7, [3, 1, 1, 1, 0, 1, 1, 1, 1, 1, 2, 1, 5])
        self.check((-4, 2, 13, -19), 7, [3, 1, 1, 1, 5, 1, 1, 1, 6, 2, 1, 1, 5, 5])
        self.check((14, 3, 9, -11), 2, [2, 1, 1, 1, 0, 1, 3, 0, 1])
        self.check((-2, 13, -19, 9), 2, [2, 1, 1, 1, 0, 1, 3, 1, 1])
        self.check((-4, 2, 13, -19), 3, [2, 1, 1, 1, 1, 3, 1, 1, 2, 0, 1])
        self.check((2, 2, -3, 2), 2, [2, 1, 2, 1, 0, 1, 2, 0, 1])
        self.check((-4, 2, 13, -19), 2, [2, 1, 2, 0, 0, 2, 1, 1, 1, 1])
        self.check((8, -12, -12, -20), 2, [1, 1, 4, 0, 0])
        self.check((1, 0, 0, 0), 2, [1, 1, 4, 1, 1])
        self.check((-6, -15, 19, 5), 5, [1, 2, 2, 1, 2, 0])
        self.check((3, 0, 0, 0), 2, [1, 1, 4, 0, 1])
        self.check((8, -12, -12, -20), 3, [1, 4, 1, 1, 2, 0, 0, 1])

    def test_two_parts_of_degree_2_in_order(self):
        self.check((1, 0, 0, 0), 3, [2, 2, 1, 1, 2, 1, 2, 1, 1, 2, 2])
        self.check((1, 0, 0, 0), 5, [2, 2, 1, 1, 2, 0, 2, 1, 1, 3, 0])
        self.check((17, -20, 18, 1), 7, [2, 2, 1, 1, 1, 0, 2, 1, 1, 3, 1])
        self.check((2, 2, 0, 2), 3, [2, 2, 1, 1, 1, 0, 2, 1, 1, 2, 2])
        # The lesser coefficient of 1 goes ahead, though its coefficient of x is the greater one.
        self.check((2, 2, 8, 6), 5, [2, 2, 1, 1, 1, 1, 2, 1, 1, 2, 0])

    def test_a_part_of_degree_2_twice_that_is_not_regular(self):
        # (x x + x + 1) twice is x^4 + 2 x^3 + 3 x x + 2 x + 1; 4 away from it, all halves are even.
        self.check((5, 2, 3, 2), 2, [1, 2, 2, 0, 1, 1])
        self.check((3, 2, 3, 2), 2, [1, 2, 2, 1, 1, 1])

    def test_at_the_beginning_that_of_1_and_x_x(self):
        self.assertEqual(asked(split(2), split(13)), [[1, 1, 2, 1, 1], [2, 1, 1, 1, 5, 1, 1, 1, 8]])

    def test_the_greatest_prime_number(self):
        self.assertEqual(asked(split(47)), [[1, 2, 1, 1, 1, 0]])
        self.check((-2, 0), 47, [2, 1, 1, 1, 7, 1, 1, 1, 40])
        self.check((-11, 1, -13), 47, [2, 1, 1, 1, 8, 1, 2, 0, 13])

    def test_no_prime_number_up_to_47(self):
        wrong = (0, 1, 4, 6, 9, 15, 21, 25, 33, 35, 39, 45, 46, 48, 49, 51, 53, 59, 61, FAR)
        self.assertEqual(asked(*[split(p) for p in wrong]), [[-1]] * len(wrong))
        self.assertEqual(asked(split(1), split(2), product(0, 0)), [[-1], [1, 1, 2, 1, 1], [-2]])

    def test_each_number_up_to_60(self):
        for p in range(61):
            self.assertEqual(asked(split(p))[0] == [-1], p not in PRIMES, p)

    def test_parts_multiplied_are_the_polynomial(self):
        for coefficients in RINGS:
            for p in PRIMES:
                whole = [1]
                for often, _, part in told_split(coefficients, p):
                    self.assertGreaterEqual(often, 1)
                    for _ in range(often):
                        whole = [c % p for c in times(whole, part)]
                self.assertEqual(whole, [c % p for c in coefficients] + [1 % p], (coefficients, p))

    def test_parts_are_in_order_and_modulo_p(self):
        for coefficients in RINGS:
            for p in PRIMES:
                parts = [part for _, _, part in told_split(coefficients, p)]
                keys = [(len(part), part) for part in parts]
                self.assertEqual(keys, sorted(keys))
                self.assertEqual(len(set(map(tuple, parts))), len(parts))
                self.assertTrue(all(0 <= c < p for part in parts for c in part))

    def test_parts_cannot_be_parted_further(self):
        for p in (2, 3, 5):
            parted = partable(p)
            for coefficients in RINGS:
                for _, _, part in told_split(coefficients, p):
                    self.assertNotIn(tuple(part), parted)

    def test_parts_of_a_lower_degree_have_no_root(self):
        for coefficients in RINGS:
            for p in PRIMES:
                for _, _, part in told_split(coefficients, p):
                    if len(part) > 2:
                        self.assertTrue(all(sum(c * x ** i for i, c in enumerate(part)) % p for x in range(p)))


if __name__ == "__main__":
    unittest.main()
