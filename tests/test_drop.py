"""drop ()"""

import unittest

from ringcalls import DROP, SINGULAR, UNIT, asked, ideal, many, often, parted, prime, product, ring, split, told

TWO = [4, 2, 0, 0, 2]
THREE = [9, 3, 0, 0, 3]


class Drop(unittest.TestCase):
    def test_how_many_are_left(self):
        self.assertEqual(asked(UNIT, ideal(2, 0), product(1, 1), DROP, DROP, DROP)[3:], [[2], [1], [0]])

    def test_none_is_there(self):
        self.assertEqual(asked(DROP, DROP, UNIT, DROP, DROP), [[-4], [-4], [0], [0], [-4]])
        self.assertEqual(asked(UNIT, ring(3, 0), DROP)[2], [-4])
        self.assertEqual(asked(ideal(0, 0), prime(4, 0), DROP)[2], [-4])

    def test_the_last_one_is_dropped(self):
        self.assertEqual(asked(ideal(2, 0), ideal(3, 0), DROP, told(0), told(1))[2:], [[1], TWO, [-2]])

    def test_the_number_of_the_next_one(self):
        given = asked(ideal(2, 0), UNIT, DROP, ideal(3, 0), told(1), told(0), DROP, DROP, prime(3, 0), told(0))
        self.assertEqual(given, [[0], [1], [1], [1], THREE, TWO, [1], [0], [0], THREE])

    def test_a_full_list(self):
        given = asked(*[UNIT] * 6, UNIT, DROP, ideal(3, 0), ideal(2, 0), told(5), DROP, prime(3, 0), product(0, 0))
        self.assertEqual(given[6:], [[-5], [5], [5], [-5], THREE, [5], [5], [-5]])
        self.assertEqual(asked(*[UNIT] * 6, DROP, product(0, 1), told(5))[6:], [[5], [5], [1, 1, 0, 0, 1]])

    def test_all_of_a_full_list(self):
        self.assertEqual(asked(*[UNIT] * 6, *[DROP] * 7)[6:], [[5], [4], [3], [2], [1], [0], [-4]])

    def test_a_dropped_one_is_named_no_more(self):
        given = asked(ideal(2, 0), ideal(3, 0), DROP, told(1), often(1, 2, 0), parted(1), product(0, 1), product(1, 0),
                      told(0), often(0, 2, 0), parted(0), product(0, 0))
        self.assertEqual(given[2:], [[1], [-2], [-2], [-2], [-2], [-2], TWO, [2], [1, 2, 0, 2], [1]])

    def test_the_others_stay_as_they_are(self):
        self.assertEqual(asked(ideal(2, 0), product(0, 0), ideal(3, 0), DROP, told(1))[4], [16, 4, 0, 0, 4])

    def test_a_refused_one_is_not_dropped(self):
        self.assertEqual(asked(ideal(2, 0), ideal(0, 0), product(0, 1), DROP, DROP), [[0], [-3], [-2], [0], [-4]])

    def test_leaves_the_ring(self):
        given = asked(ring(3, 0), prime(2, 0), DROP, DROP, SINGULAR, split(2), many(7), prime(7, 0))
        self.assertEqual(given[2:], [[0], [-4], [1, 2], [1, 1, 2, 0, 1], [2], [0]])


if __name__ == "__main__":
    unittest.main()
