"""often (i, p, a part)"""

import unittest

from ringcalls import (DROP, FAR, PRIMES, UNIT, asked, classes, ideal, often, prime, product, ring, split, times_t, told,
                       told_split)


def power_times(part, k, coefficients):
    """The part (t) to the k, by its places."""
    number = [1] + [0] * (len(coefficients) - 1)
    for _ in range(k):
        shifted, whole = number, [0] * len(number)
        for c in part:
            whole = [a + c * b for a, b in zip(whole, shifted)]
            shifted = times_t(shifted, coefficients)
        number = whole
    return number


def often_by_classes(numbers, p, part, coefficients):
    """The greatest e so that the power e of the prime ideal has no more classes than it has with the numbers too."""
    e = 0
    while True:
        power = [[p ** (e + 1 - k) * c for c in power_times(part, k, coefficients)] for k in range(e + 2)]
        if classes(coefficients, power) != classes(coefficients, power + numbers):
            return e
        e += 1


class Often(unittest.TestCase):
    def test_0_1_and_more(self):
        given = asked(ideal(10, 5), often(0, 5, 0), often(0, 5, 1), often(0, 2, 0), often(0, 3, 0), often(0, 47, 0))
        self.assertEqual(given[1:], [[2], [1], [0], [0], [0]])
        self.assertEqual(asked(ideal(96, 0), often(0, 2, 0), often(0, 3, 0), often(0, 5, 0))[1:], [[10], [1], [0]])

    def test_the_whole_ring(self):
        self.assertEqual(asked(UNIT, *[often(0, p, 0) for p in PRIMES]), [[0]] * 16)
        self.assertEqual(asked(ring(2, 0, 0, 0), ideal(1, 0, 0, 0), often(0, 2, 0), often(0, 3, 1))[1:], [[0]] * 3)

    def test_itself_and_its_powers(self):
        for coefficients, p, part in (((1, 0), 13, 1), ((-2, 0), 47, 1), ((2, 0, 0), 7, 0), ((1, 0, 0, 0), 5, 1)):
            given = asked(ring(*coefficients), prime(p, part), *[product(k, 0) for k in range(2)],
                          *[often(k, p, part) for k in range(3)])
            self.assertEqual(given[4:], [[1], [2], [3]], (coefficients, p))

    def test_a_part_of_degree_1(self):
        given = asked(ring(-2, 0), ideal(7, 1), split(47), often(0, 47, 0), often(0, 47, 1))
        self.assertEqual(given[2:], [[2, 1, 1, 1, 7, 1, 1, 1, 40], [1], [0]])

    def test_a_part_of_a_higher_degree(self):
        self.assertEqual(asked(ideal(54, 27), often(0, 3, 0))[1], [3])
        given = asked(ring(2, 0, 0), prime(5, 0), prime(5, 1), product(0, 1), product(1, 2),
                      often(3, 5, 0), often(3, 5, 1), ideal(49, 0, 0), often(4, 7, 0))
        self.assertEqual(given[5:], [[1], [2], [4], [2]])
        self.assertEqual(asked(ring(8, -12, -12, -20), ideal(9, 0, 0, 0), often(0, 3, 0))[2], [2])

    def test_a_part_that_stands_several_times_and_is_regular(self):
        self.assertEqual(asked(split(2), prime(2, 0), often(0, 2, 0), ideal(2, 0), often(1, 2, 0)),
                         [[1, 1, 2, 1, 1], [0], [1], [1], [2]])
        self.assertEqual(asked(ring(2, 0, 0), ideal(12, 0, 0), often(0, 2, 0), often(0, 3, 0))[2:], [[6], [3]])
        given = asked(ring(3, 2, 3, 2), split(2), prime(2, 0), product(0, 0), product(0, 1), often(2, 2, 0))
        self.assertEqual(given[1:], [[1, 2, 2, 1, 1, 1], [0], [1], [2], [3]])

    def test_many_times(self):
        given = asked(ring(2, 0, 0, 0), ideal(64, 0, 0, 0), ideal(2, 0, 0, 0), product(0, 1), often(2, 2, 0))
        self.assertEqual(given[4], [28])

    def test_an_ideal_that_is_in_an_awkward_prime_too(self):
        given = asked(ring(-8, -2, -1), split(2), prime(2, 0), prime(2, 1), product(0, 1), product(1, 2),
                      often(0, 2, 1), often(2, 2, 1), often(3, 2, 1))
        self.assertEqual(given[1:], [[2, 1, 2, 0, 0, 1, 1, 1, 1], [0], [1], [2], [3], [0], [1], [2]])

    def test_no_such_ideal(self):
        self.assertEqual(asked(often(0, 2, 0), UNIT, often(1, 2, 0), often(FAR, 2, 0), DROP, often(0, 2, 0)),
                         [[-2], [0], [-2], [-2], [0], [-2]])
        self.assertEqual(asked(UNIT, ring(1, 0), often(0, 2, 0))[2], [-2])

    def test_no_prime_number_up_to_47(self):
        wrong = (0, 1, 4, 9, 46, 48, 49, 53, FAR)
        self.assertEqual(asked(UNIT, *[often(0, p, 0) for p in wrong])[1:], [[-1]] * len(wrong))

    def test_no_such_part(self):
        self.assertEqual(asked(UNIT, often(0, 2, 1), often(0, 5, 2), often(0, 5, FAR), often(0, 5, 1))[1:],
                         [[-3], [-3], [-3], [0]])

    def test_one_that_is_not_regular(self):
        self.assertEqual(asked(ring(3, 0), ideal(7, 0), often(0, 2, 0), often(0, 7, 0))[2:], [[-6], [1]])
        self.assertEqual(asked(ring(5, 2, 3, 2), prime(2, 0), often(0, 2, 0))[2], [-6])
        self.assertEqual(asked(ring(-11, 1, -13), ideal(1, 0, 0), often(0, 47, 1), often(0, 47, 0))[2:], [[-6], [0]])

    def test_the_ideal_ahead_of_all(self):
        given = asked(ring(3, 0), ideal(2, 0), often(1, 4, 0), often(1, 0, FAR), often(1, 2, 1), often(1, 2, 0))
        self.assertEqual(given[2:], [[-2]] * 4)

    def test_p_ahead_of_the_part(self):
        self.assertEqual(asked(UNIT, often(0, 4, 7), often(0, 53, FAR), often(0, 0, 1))[1:], [[-1]] * 3)

    def test_the_part_ahead_of_regular(self):
        self.assertEqual(asked(ring(3, 0), ideal(2, 0), often(0, 2, 1), often(0, 2, FAR), often(0, 2, 0))[2:],
                         [[-3], [-3], [-6]])

    def test_leaves_all_as_it_is(self):
        given = asked(ideal(6, 2), told(0), often(0, 2, 0), often(0, 5, 0), often(0, 5, 7), told(0), UNIT)
        self.assertEqual(given[1], given[5])
        self.assertEqual(given[6], [1])

    def test_by_classes(self):
        for coefficients, numbers in (((1, 0), [[12, 6]]), ((3, 0), [[21, 0], [3, 9]]), ((16, 16), [[20, 15]]),
                                      ((2, 0, 0), [[10, 0, 5]]), ((-8, -2, -1), [[6, 0, 6], [0, 4, 0]])):
            for p in (2, 3, 5, 7):
                for k, (_, regular, part) in enumerate(told_split(coefficients, p)):
                    given = asked(ring(*coefficients), ideal(*[c for row in numbers for c in row]), often(0, p, k))[2]
                    expected = often_by_classes(numbers, p, part, coefficients) if regular else -6
                    self.assertEqual(given, [expected], (coefficients, p, k))


if __name__ == "__main__":
    unittest.main()
