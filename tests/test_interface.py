"""ringideals.rings.answers: how calls stand in the list, and answers in the one that is given back."""

import unittest

from ringcalls import (DROP, FAR, SINGULAR, UNIT, asked, ideal, joined, many, often, parted, prime, product, ring, split,
                       told)
from ringideals.rings import answers

MIXED = joined(split(5), ring(3, 0), prime(2, 0), SINGULAR, ideal(2, 0, 1, 1), product(0, 1), ring(0, 0), ideal(),
               ring(), split(FAR), prime(2, 1), product(0, 3), ring(-8, -2, -1), split(2), ideal(1, 2, 3), SINGULAR)

# All eleven calls, each answered and, where it can be, refused.
ELEVEN = joined(DROP, ideal(10, 5), told(0), often(0, 5, 0), parted(0), many(65), prime(5, 1), product(0, 1), told(2),
                DROP, told(2), many(53), ring(3, 0), told(0), prime(2, 0), often(0, 2, 0), parted(0), SINGULAR, split(2),
                ideal(-7, 0), parted(1), often(1, 4, 0), often(1, 3, 1), often(1, 7, 1), many(2), many(0), DROP,
                product(0, 1), ideal(0, 0), split(1))
ELEVEN_ANSWERS = [1, -4, 1, 0, 5, 125, 25, 0, 10, 5, 1, 2, 7, 2, 5, 0, 2, 5, 1, 1, 1, 4, 1, 1, 1, 2,
                  5, 625, 25, 0, 0, 25, 1, 2, 1, -2, 1, -9, 1, 0, 1, -2, 1, 0, 1, -6, 1, -6, 2, 1, 2, 5, 1, 1, 2, 0, 1,
                  1, 1, 7, 2, 7, 0, 1, 7, 1, 1, 1, -1, 1, -3, 1, 1, 1, -6, 1, -1, 1, 1, 1, -2, 1, -3, 1, -1]


class Fixed(list):
    """A list that tells of each change."""

    def refuse(self, *given, **named):
        raise AssertionError("the list that was handed in is changed")

    __setitem__ = __delitem__ = __iadd__ = __imul__ = refuse
    append = clear = extend = insert = pop = remove = reverse = sort = refuse


class Interface(unittest.TestCase):
    def test_counts_stand_ahead_of_what_is_answered(self):
        self.assertEqual(answers([0, 2, 3, 0]), [1, 0])
        self.assertEqual(answers([1, 2]), [5, 1, 1, 2, 1, 1])
        self.assertEqual(answers([2]), [1, 0])
        self.assertEqual(answers([0, 2, 3, 0, 2]), [1, 0, 2, 1, 2])
        self.assertEqual(answers([3, 5, 1]), [1, 0])
        self.assertEqual(answers([4, 2, 1, 1]), [1, 0])
        self.assertEqual(answers([4, 2, 1, 1, 5, 0, 0]), [1, 0, 1, 1])
        self.assertEqual(answers([0, 3, -8, -2, -1, 1, 2]), [1, 0, 9, 2, 1, 2, 0, 0, 1, 1, 1, 1])
        self.assertEqual(answers([4, 2, 3, 1, 6, 0]), [1, 0, 5, 10, 10, 0, 3, 1])
        self.assertEqual(answers([4, 2, 3, 1, 7, 0, 2, 0]), [1, 0, 1, 1])
        self.assertEqual(answers([4, 2, 3, 1, 8, 0]), [1, 0, 7, 2, 2, 0, 1, 5, 1, 1])
        self.assertEqual(answers([4, 2, 1, 0, 8, 0]), [1, 0, 1, 0])
        self.assertEqual(answers([9, 25]), [1, 3])
        self.assertEqual(answers([4, 2, 3, 1, 10]), [1, 0, 1, 0])

    def test_a_refusal_stands_alone(self):
        self.assertEqual(answers([0, 0]), [1, -1])
        self.assertEqual(answers([0, 2, 0, 0]), [1, -3])
        self.assertEqual(answers([1, 4]), [1, -1])
        self.assertEqual(answers([3, 2, 1]), [1, -3])
        self.assertEqual(answers([4, 0]), [1, -1])
        self.assertEqual(answers([5, 0, 0]), [1, -2])
        self.assertEqual(answers([6, 0]), [1, -2])
        self.assertEqual(answers([7, 0, 2, 0]), [1, -2])
        self.assertEqual(answers([8, 0]), [1, -2])
        self.assertEqual(answers([9, 53]), [1, -9])
        self.assertEqual(answers([10]), [1, -4])

    def test_calls_one_behind_another(self):
        self.assertEqual(answers(MIXED), [9, 2, 1, 1, 1, 2, 1, 1, 1, 3, 1, 0, 1, 0, 2, 1, 2, 1, 1, 1, 2, 1, -3, 1, -1,
                                          1, -1, 1, -1, 1, -3, 1, -2, 1, 0, 9, 2, 1, 2, 0, 0, 1, 1, 1, 1, 1, 0,
                                          2, 1, 2])

    def test_all_eleven_calls(self):
        self.assertEqual(answers(ELEVEN), ELEVEN_ANSWERS)

    def test_order_of_the_calls_is_free(self):
        self.assertEqual(asked(many(5), DROP, parted(0), often(0, 2, 0), told(0), product(0, 0), UNIT, prime(2, 0),
                               SINGULAR, split(3), ring(3, 0)),
                         [[2], [-4], [-2], [-2], [-2], [-2], [0], [1], [0], [1, 2, 1, 1, 1, 0], [0]])

    def test_behind_a_ring_no_ideal_is_there(self):
        given = asked(ideal(2, 0), UNIT, ring(1, 0), told(0), often(1, 2, 0), parted(0), product(0, 0), DROP, told(0))
        self.assertEqual(given[2:], [[0], [-2], [-2], [-2], [-2], [-4], [-2]])

    def test_behind_a_refused_ring_they_are(self):
        given = asked(ideal(2, 0), ring(0, 0), told(0), often(0, 2, 0), parted(0), DROP)
        self.assertEqual(given[1:], [[-3], [4, 2, 0, 0, 2], [2], [1, 2, 0, 2], [0]])

    def test_a_refusal_leaves_all_as_it_was(self):
        refused = (told(2), often(2, 2, 0), often(0, 4, 0), often(0, 3, 1), often(0, 2, 0), parted(2), parted(0),
                   parted(1), many(0), many(53), many(2), product(0, 2), prime(4, 0), prime(2, 1), ideal(0), ideal(0, 0),
                   ring(), ring(0, 0), split(4))
        state = (told(0), told(1), told(2), split(2))
        for call in refused:
            given = asked(ring(3, 0), prime(2, 0), ideal(53, 1), *state, call, *state, ideal(1, 0))
            self.assertEqual(len(given[7]), 1)
            self.assertLess(given[7][0], 0, call)
            self.assertEqual(given[3:7], given[8:12], call)
            self.assertEqual(given[12], [2], call)

    def test_nothing_but_refusals_is_below_0(self):
        for given in asked(ring(-20, 19, -18, -15), ideal(-100, 0, 0, -3), ideal(-7, 5, -1, 0), told(0), told(1),
                           product(0, 1), told(2), split(2), split(47), SINGULAR):
            self.assertTrue(len(given) == 1 or min(given) >= 0, given)

    def test_far_numbers(self):
        self.assertEqual(asked(UNIT, told(FAR), often(FAR, FAR, FAR), often(0, FAR, FAR), often(0, 2, FAR), parted(FAR),
                               many(FAR), product(FAR, FAR), split(FAR), prime(FAR, FAR), prime(2, FAR)),
                         [[0], [-2], [-2], [-1], [-3], [-2], [-1], [-2], [-1], [-1], [-3]])

    def test_lists_of_all_lengths_are_passed_over(self):
        for length in range(7):
            self.assertEqual(asked(ring(*[FAR] * length), split(3)), [[-1], [1, 2, 1, 1, 1, 0]])
        for length in range(15):
            self.assertEqual(asked(ideal(*[-FAR] * length), split(3)), [[-1], [1, 2, 1, 1, 1, 0]])

    def test_numbers_in_a_list_are_no_calls(self):
        self.assertEqual(asked(ring(2, 2, 2), split(2), ideal(2, 2, 5, 0, 0, 1))[1:], [[1, 1, 3, 1, 0], [0]])

    def test_the_list_stays_as_it_is(self):
        given = list(MIXED)
        answers(given)
        self.assertEqual(given, MIXED)
        self.assertEqual(answers(Fixed(MIXED)), answers(MIXED))
        given = list(ELEVEN)
        answers(given)
        self.assertEqual(given, ELEVEN)
        self.assertEqual(answers(Fixed(ELEVEN)), ELEVEN_ANSWERS)

    def test_the_same_twice(self):
        first = answers(MIXED)
        expected = list(first)
        first.append(7)
        self.assertEqual(answers(MIXED), expected)
        self.assertEqual(answers(ELEVEN), answers(ELEVEN))

    def test_each_time_is_as_the_first(self):
        answers(joined(ring(3, 0), prime(2, 0), prime(2, 0)))
        self.assertEqual(answers(joined(product(0, 0), split(2), ideal(1, 0))), [1, -2, 5, 1, 1, 2, 1, 1, 1, 0])
        answers(joined(ring(3, 0), ring(0, 0)))
        self.assertEqual(answers(SINGULAR), [1, 0])
        self.assertEqual(asked(DROP, told(0), many(2)), [[-4], [-2], [1]])

    def test_whole_numbers_in_a_list_alone(self):
        for calls in (MIXED, ELEVEN):
            given = answers(calls)
            self.assertIs(type(given), list)
            self.assertEqual({type(number) for number in given}, {int})

    def test_thirty_calls(self):
        self.assertEqual(asked(*[split(47)] * 30), [[1, 2, 1, 1, 1, 0]] * 30)
        mixed = [ring(2, 0, 0, 0), ideal(0, 1, 0, 0), *[product(k, 0) for k in range(6)], *[prime(2, 0)] * 22]
        self.assertEqual(asked(*mixed), [[0], [0], [1], [2], [3], [4], [5], [-5]] + [[-5]] * 22)
        self.assertEqual(asked(*[UNIT, DROP] * 15), [[0], [0]] * 15)
        self.assertEqual(asked(ideal(100, 0), *[parted(0)] * 29)[1:], [[3, 2, 0, 4, 5, 0, 2, 5, 1, 2]] * 29)
        self.assertEqual(len(asked(*[many(100000)] * 10, *[told(0)] * 10, *[DROP] * 10)), 30)

    def test_all_at_its_largest(self):
        calls = [ideal(*range(87, 101))] * 30
        self.assertEqual(len(joined(*calls)), 480)
        self.assertEqual(asked(*calls), [[-1]] * 30)


if __name__ == "__main__":
    unittest.main()
