"""ideal (numbers)"""

import unittest
from itertools import product as each_of

from ringcalls import FAR, UNIT, asked, classes, has, ideal, product, ring, spanned
from ringideals.ideals import ideal_made_of, norm_of


def made_rows(coefficients, numbers):
    return ideal_made_of([list(number) for number in numbers], list(coefficients) + [1])


class Kept(unittest.TestCase):
    def test_one_two_and_three_numbers(self):
        self.assertEqual(asked(ideal(2, 0), ideal(2, 0, 1, 1), ideal(2, 0, 1, 1, 0, 5)), [[0], [1], [2]])
        self.assertEqual(asked(ring(2, 0, 0), ideal(1, 2, 3), ideal(*[1] * 6), ideal(*[4] * 9))[1:], [[0], [1], [2]])
        self.assertEqual(asked(ring(1, 0, 0, 0), ideal(*[1] * 4), ideal(*[1] * 8), ideal(*[4] * 12))[1:],
                         [[0], [1], [2]])

    def test_none_and_more_than_three(self):
        self.assertEqual(asked(ideal(), ideal(*[1] * 8), ideal(*[1] * 14)), [[-1]] * 3)
        self.assertEqual(asked(ring(2, 0, 0), ideal(), ideal(*[1] * 12))[1:], [[-1]] * 2)
        self.assertEqual(asked(ring(2, 0, 0, 0), ideal())[1:], [[-1]])

    def test_a_length_that_is_no_multiple(self):
        for coefficients in ((2, 0), (2, 0, 0), (2, 0, 0, 0)):
            n = len(coefficients)
            for length in range(15):
                expected = 0 if length in (n, 2 * n, 3 * n) else -1
                self.assertEqual(asked(ring(*coefficients), ideal(*[1] * length))[1], [expected], (n, length))

    def test_places_of_100_and_101(self):
        self.assertEqual(asked(ideal(100, 0), ideal(-100, 0), ideal(0, 100), ideal(1, 1, 1, -100)), [[0], [1], [2], [3]])
        wrong = (ideal(101, 0), ideal(-101, 0), ideal(0, 101), ideal(1, 1, 1, -101), ideal(FAR, 0), ideal(1, -FAR))
        self.assertEqual(asked(*wrong), [[-1]] * 6)

    def test_all_0(self):
        self.assertEqual(asked(ideal(0, 0), ideal(0, 0, 0, 0), ideal(*[0] * 6), ideal(0, 0, 0, 1)),
                         [[-3], [-3], [-3], [0]])
        self.assertEqual(asked(ring(2, 0, 0, 0), ideal(0, 0, 0, 0), ideal(*[0] * 12))[1:], [[-3]] * 2)

    def test_form_ahead_of_all_0(self):
        self.assertEqual(asked(ideal(), ideal(0), ideal(0, 0, 0), ideal(*[0] * 8)), [[-1]] * 4)

    def test_form_and_all_0_ahead_of_room(self):
        self.assertEqual(asked(*[UNIT] * 6, ideal(0, 0), ideal(0), ideal(101, 0), ideal(1, 0))[6:],
                         [[-3], [-1], [-1], [-5]])

    def test_the_sixth_and_a_seventh(self):
        self.assertEqual(asked(*[ideal(7, 1)] * 7), [[0], [1], [2], [3], [4], [5], [-5]])

    def test_room_ahead_of_the_norm(self):
        given = asked(ring(10, 0, 0, 0), *[ideal(1, 0, 0, 0)] * 5, ideal(100, 100, 0, 0), ideal(1, 0, 0, 0),
                      ideal(100, 100, 0, 0), ideal(1, 0, 0, 0))
        self.assertEqual(given[6:], [[-8], [5], [-5], [-5]])

    def test_a_norm_of_just_10_to_the_9(self):
        # That of u + v t is v^4 f (-u / v): with 100 and 100, 10 to the 8 times f (-1).
        self.assertEqual(asked(ring(9, 0, 0, 0), ideal(100, 100, 0, 0)), [[0], [0]])
        self.assertEqual(asked(ring(-8, 0, 0, 0), ideal(100, 100, 0, 0)), [[0], [0]])
        self.assertEqual(asked(ring(10, 0, 0, 0), ideal(100, 100, 0, 0)), [[0], [-8]])
        self.assertEqual(asked(ring(10, 8, -8, -16), ideal(0, -100, 0, 0), ideal(0, 100, 0, 0)), [[0], [0], [1]])

    def test_a_norm_a_little_less_and_above(self):
        self.assertEqual(asked(ring(11, 9, 11, -14), ideal(-45, 88, 0, 0)), [[0], [0]])
        self.assertEqual(asked(ring(9, 8, 5, -13), ideal(-75, -94, 0, 0)), [[0], [-8]])

    def test_a_refused_one_is_not_kept(self):
        given = asked(ring(10, 0, 0, 0), ideal(100, 100, 0, 0), product(0, 0), ideal(0, 0, 0, 0), ideal(1, 0, 0, 0))
        self.assertEqual(given[1:], [[-8], [-2], [-3], [0]])

    def test_more_numbers_make_the_norm_less(self):
        # 100 + 100 t alone has 11 times 10 to the 8; with 100 it has but 10 to the 8.
        given = asked(ring(10, 0, 0, 0), ideal(100, 100, 0, 0), ideal(100, 100, 0, 0, 100, 0, 0, 0))
        self.assertEqual(given[1:], [[-8], [0]])


class Rows(unittest.TestCase):
    def test_of_the_ring_of_the_beginning(self):
        self.assertEqual(made_rows((1, 0), [(3, 1)]), [[10, 0], [3, 1]])
        self.assertEqual(made_rows((1, 0), [(3, -1)]), [[10, 0], [7, 1]])
        self.assertEqual(made_rows((1, 0), [(0, 1)]), [[1, 0], [0, 1]])
        self.assertEqual(made_rows((1, 0), [(2, 0), (1, 1)]), [[2, 0], [1, 1]])
        self.assertEqual(made_rows((1, 0), [(4, 0), (0, 6)]), [[2, 0], [0, 2]])
        self.assertEqual(made_rows((1, 0), [(0, 0), (-6, 0), (0, 0)]), [[6, 0], [0, 6]])

    def test_of_degree_3_and_4(self):
        self.assertEqual(made_rows((2, 0, 0), [(0, 1, 0)]), [[2, 0, 0], [0, 1, 0], [0, 0, 1]])
        self.assertEqual(made_rows((2, 0, 0), [(1, 1, 0)]), [[1, 0, 0], [0, 1, 0], [0, 0, 1]])
        self.assertEqual(made_rows((2, 0, 0), [(2, 1, 0)]), [[6, 0, 0], [2, 1, 0], [2, 0, 1]])
        self.assertEqual(made_rows((2, 0, 0, 0), [(0, 0, 1, 0)]),
                         [[2, 0, 0, 0], [0, 2, 0, 0], [0, 0, 1, 0], [0, 0, 0, 1]])

    def test_by_the_words(self):
        places = (-7, 0, 3, 100)
        for coefficients in ((1, 0), (16, 16), (-8, -2, -1), (20, -19, 20), (16, 8, 4, 2), (-20, 20, 20, 19)):
            some = [list(number) for number in each_of(places, repeat=len(coefficients)) if any(number)][::5]
            for a, b in zip(some, some[3:] + some[:3]):
                for numbers in ([a], [a, b]):
                    self.check_rows(coefficients, numbers)

    def check_rows(self, coefficients, numbers):
        n = len(coefficients)
        rows = made_rows(coefficients, numbers)
        self.assertEqual(len(rows), n)
        for i, row in enumerate(rows):
            self.assertGreater(row[i], 0)
            self.assertEqual(row[i + 1:], [0] * (n - 1 - i))
            self.assertTrue(all(0 <= row[j] < rows[j][j] for j in range(i)))
        every = spanned(coefficients, numbers)
        self.assertTrue(all(has(rows, number) for number in every))
        self.assertEqual(norm_of(rows), classes(coefficients, numbers))


if __name__ == "__main__":
    unittest.main()
