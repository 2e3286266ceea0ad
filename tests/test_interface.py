"""ringideals.rings.answers: how calls stand in the list, and answers in the one that is given back."""

import unittest

from ringcalls import SINGULAR, FAR, asked, ideal, joined, prime, product, ring, split
from ringideals.rings import answers

MIXED = joined(split(5), ring(3, 0), prime(2, 0), SINGULAR, ideal(2, 0, 1, 1), product(0, 1), ring(0, 0), ideal(),
               ring(), split(FAR), prime(2, 1), product(0, 3), ring(-8, -2, -1), split(2), ideal(1, 2, 3), SINGULAR)


class Fixed(list):
    """A list that tells of each change."""

    def refuse(self, *given, **named):
        raise AssertionError("the list that was handed in is changed")

    __setitem__ = __delitem__ = __iadd__ = __imul__ = refuse
    append = clear = extend = insert = pop = remove = reverse = sort = refuse


class Interface(unittest.TestCase):
    def test_counts_stand_ahead_of_what_is_answered(self):
        self.assertEqual(answers([0, 2, 3, 0]), [1, 0])
        self.assertEqual(answers([1, 2]), [5, 1, 1, 2, 1, 1])
        self.assertEqual(answers([2]), [1, 0])
        self.assertEqual(answers([0, 2, 3, 0, 2]), [1, 0, 2, 1, 2])
        self.assertEqual(answers([3, 5, 1]), [1, 0])
        self.assertEqual(answers([4, 2, 1, 1]), [1, 0])
        self.assertEqual(answers([4, 2, 1, 1, 5, 0, 0]), [1, 0, 1, 1])
        self.assertEqual(answers([0, 3, -8, -2, -1, 1, 2]), [1, 0, 9, 2, 1, 2, 0, 0, 1, 1, 1, 1])

    def test_a_refusal_stands_alone(self):
        self.assertEqual(answers([0, 0]), [1, -1])
        self.assertEqual(answers([0, 2, 0, 0]), [1, -3])
        self.assertEqual(answers([1, 4]), [1, -1])
        self.assertEqual(answers([3, 2, 1]), [1, -3])
        self.assertEqual(answers([4, 0]), [1, -1])
        self.assertEqual(answers([5, 0, 0]), [1, -2])

    def test_calls_one_behind_another(self):
        self.assertEqual(answers(MIXED), [9, 2, 1, 1, 1, 2, 1, 1, 1, 3, 1, 0, 1, 0, 2, 1, 2, 1, 1, 1, 2, 1, -3, 1, -1,
                                          1, -1, 1, -1, 1, -3, 1, -2, 1, 0, 9, 2, 1, 2, 0, 0, 1, 1, 1, 1, 1, 0,
                                          2, 1, 2])

    def test_lists_of_all_lengths_are_passed_over(self):
        for length in range(7):
            self.assertEqual(asked(ring(*[FAR] * length), split(3)), [[-1], [1, 2, 1, 1, 1, 0]])
        for length in range(15):
            self.assertEqual(asked(ideal(*[-FAR] * length), split(3)), [[-1], [1, 2, 1, 1, 1, 0]])

    def test_numbers_in_a_list_are_no_calls(self):
        self.assertEqual(asked(ring(2, 2, 2), split(2), ideal(2, 2, 5, 0, 0, 1))[1:], [[1, 1, 3, 1, 0], [0]])

    def test_the_list_stays_as_it_is(self):
        given = list(MIXED)
        answers(given)
        self.assertEqual(given, MIXED)
        self.assertEqual(answers(Fixed(MIXED)), answers(MIXED))

    def test_the_same_twice(self):
        first = answers(MIXED)
        expected = list(first)
        first.append(7)
        self.assertEqual(answers(MIXED), expected)

    def test_each_time_is_as_the_first(self):
        answers(joined(ring(3, 0), prime(2, 0), prime(2, 0)))
        self.assertEqual(answers(joined(product(0, 0), split(2), ideal(1, 0))), [1, -2, 5, 1, 1, 2, 1, 1, 1, 0])
        answers(joined(ring(3, 0), ring(0, 0)))
        self.assertEqual(answers(SINGULAR), [1, 0])

    def test_whole_numbers_in_a_list_alone(self):
        given = answers(MIXED)
        self.assertIs(type(given), list)
        self.assertEqual({type(number) for number in given}, {int})

    def test_thirty_calls(self):
        self.assertEqual(asked(*[split(47)] * 30), [[1, 2, 1, 1, 1, 0]] * 30)
        mixed = [ring(2, 0, 0, 0), ideal(0, 1, 0, 0), *[product(k, 0) for k in range(6)], *[prime(2, 0)] * 22]
        self.assertEqual(asked(*mixed), [[0], [0], [1], [2], [3], [4], [5], [-5]] + [[-5]] * 22)

    def test_all_at_its_largest(self):
        calls = [ideal(*range(87, 101))] * 30
        self.assertEqual(len(joined(*calls)), 480)
        self.assertEqual(asked(*calls), [[-1]] * 30)


if __name__ == "__main__":
    unittest.main()
