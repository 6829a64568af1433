import unittest
from fractions import Fraction

import alike
import oracle
import samples
from witnessedmost.linear import within

BOX = [[1, 0, 3], [-1, 0, 0], [0, 1, 2], [0, -1, 0]]


class NoPlace(unittest.TestCase):
    def test_one_condition_of_all_zeros_below_zero(self):
        self.assertEqual(within(1, [[0, -1]]), [0, 1, 0, 1, 1])
        self.assertEqual(within(2, [[0, 0, -7]]), [0, 1, 0, 1, 7])
        self.assertEqual(within(3, [[1, 0, 0, 5], [0, 0, 0, -10000]]), [0, 1, 1, 1, 10000])

    def test_two_conditions_against_each_other(self):
        self.assertEqual(within(1, [[1, 2], [-1, -3]]), [0, 2, 0, 1, 1, 1, 1, 1])
        self.assertEqual(within(1, [[2, 1], [-3, -4]]), [0, 2, 0, 3, 5, 1, 2, 5])
        self.assertEqual(within(2, [[2, 2, 1], [-1, -1, -1]]), [0, 2, 0, 1, 1, 1, 2, 1])

    def test_n_and_one_conditions(self):
        self.assertEqual(within(2, [[1, 1, 1], [-1, 0, -1], [0, -1, -1]]), [0, 3, 0, 1, 1, 1, 1, 1, 2, 1, 1])
        conditions = [[1, 1, 1, 2], [-1, 0, 0, -1], [0, -1, 0, -1], [0, 0, -1, -1]]
        self.assertEqual(within(3, conditions), [0, 4, 0, 1, 1, 1, 1, 1, 2, 1, 1, 3, 1, 1])

    def test_parts_have_nothing_in_common(self):
        self.assertEqual(within(1, [[4, 2], [-4, -6]]), [0, 2, 0, 1, 4, 1, 1, 4])

    def test_fewer_conditions_go_first(self):
        self.assertEqual(within(1, [[1, 0], [-1, -1], [0, -2]]), [0, 1, 2, 1, 2])
        self.assertEqual(within(2, [[1, 1, 1], [-1, 0, -1], [0, -1, -1], [0, 1, 0]]), [0, 2, 2, 1, 1, 3, 1, 1])

    def test_of_as_many_the_lesser_condition_goes_first(self):
        self.assertEqual(within(1, [[0, -3], [0, -2]]), [0, 1, 0, 1, 3])
        self.assertEqual(within(1, [[1, 5], [1, 0], [-1, -9], [-1, -1]]), [0, 2, 0, 1, 4, 2, 1, 4])

    def test_conditions_that_stand_twice(self):
        self.assertEqual(within(1, [[1, 0], [1, 0], [-1, -1], [-1, -1]]), [0, 2, 0, 1, 1, 2, 1, 1])

    def test_that_there_is_no_place_goes_ahead_of_no_end(self):
        self.assertEqual(within(2, [[0, 1, 0], [0, -1, -2]]), [0, 2, 0, 1, 2, 1, 1, 2])

    def test_eight_conditions(self):
        conditions = [[1, 0, 0, 1], [0, 1, 0, 1], [0, 0, 1, 1], [-1, 0, 0, 0], [0, -1, 0, 0], [0, 0, -1, 0],
                      [1, 1, 1, 2], [-1, -1, -1, -3]]
        self.assertEqual(within(3, conditions), [0, 2, 6, 1, 1, 7, 1, 1])
        self.assertEqual(within(3, conditions[:7]), [2, 1, 1, 1, 1, 0, 1])


class WithoutEnd(unittest.TestCase):
    def test_no_condition(self):
        for n in (1, 2, 3):
            self.assertEqual(within(n, []), [1])

    def test_conditions_of_all_zeros_bound_nothing(self):
        for n in (1, 2, 3):
            self.assertEqual(within(n, [[0] * (n + 1)]), [1])
            self.assertEqual(within(n, [[0] * n + [4]] * 8), [1])

    def test_the_first_number(self):
        self.assertEqual(within(1, [[-1, 0]]), [1])
        self.assertEqual(within(2, [[0, 1, 5]]), [1])
        self.assertEqual(within(2, [[1, 1, 5]]), [1])
        self.assertEqual(within(3, [[0, 1, 0, 5], [0, 0, 1, 5], [0, -1, 0, 0], [0, 0, -1, 0]]), [1])

    def test_the_first_has_an_end_and_the_second_has_not(self):
        self.assertEqual(within(2, [[1, 0, 5]]), [1])
        self.assertEqual(within(2, [[1, 0, 5], [-1, 0, -5], [0, -1, 0]]), [1])
        self.assertEqual(within(3, [[1, 0, 0, 5], [0, 0, 1, 5]]), [1])

    def test_only_the_third_has_no_end(self):
        self.assertEqual(within(3, [[1, 0, 0, 5], [0, 1, 0, 5]]), [1])
        self.assertEqual(within(3, [[1, 0, 0, 5], [0, 1, 0, 5], [0, 0, -1, 5]]), [1])


class TheGreatestPlace(unittest.TestCase):
    def test_one_number(self):
        self.assertEqual(within(1, [[1, 4]]), [2, 4, 1])
        self.assertEqual(within(1, [[1, 4], [-1, 0]]), [2, 4, 1])
        self.assertEqual(within(1, [[1, 9], [1, 8], [2, 15], [3, 23], [-1, 0], [5, 38], [0, 0], [1, 10]]), [2, 15, 2])

    def test_below_zero_zero_and_above(self):
        self.assertEqual(within(1, [[2, -3]]), [2, -3, 2])
        self.assertEqual(within(1, [[7, 0]]), [2, 0, 1])
        self.assertEqual(within(1, [[2, 3]]), [2, 3, 2])
        self.assertEqual(within(3, [[1, 0, 0, 3], [0, 2, 0, -1], [0, 0, 5, 0]]), [2, 3, 1, -1, 2, 0, 1])

    def test_fractions_have_nothing_in_common(self):
        self.assertEqual(within(1, [[6, 4]]), [2, 2, 3])
        self.assertEqual(within(2, [[4, 0, -6], [0, 100, 10000]]), [2, -3, 2, 100, 1])

    def test_a_single_place(self):
        self.assertEqual(within(1, [[1, 3], [-1, -3]]), [2, 3, 1])
        self.assertEqual(within(2, [[1, 1, 0], [-1, 0, 0], [0, -1, 0]]), [2, 0, 1, 0, 1])
        self.assertEqual(within(2, [[2, 1, 0], [-2, -1, 0], [1, -3, 7], [-1, 3, -7]]), [2, 1, 1, -2, 1])
        conditions = [[1, 1, 1, 3], [-1, 0, 0, -1], [0, -1, 0, -1], [0, 0, -1, -1]]
        self.assertEqual(within(3, conditions), [2, 1, 1, 1, 1, 1, 1])

    def test_a_corner(self):
        self.assertEqual(within(2, [[1, 1, 2], [1, -1, 1], [-1, 0, 0]]), [2, 3, 2, 1, 2])
        self.assertEqual(within(2, [[1, 1, 4], [-1, 0, 0], [0, -1, 0]]), [2, 4, 1, 0, 1])
        self.assertEqual(within(3, [[1, 1, 1, 6], [-1, 0, 0, 0], [0, -1, 0, 0], [0, 0, -1, 0]]), [2, 6, 1, 0, 1, 0, 1])

    def test_an_edge_where_the_second_tells(self):
        self.assertEqual(within(2, BOX), [2, 3, 1, 2, 1])
        self.assertEqual(within(2, [[1, 0, 2], [0, 3, 1]]), [2, 2, 1, 1, 3])
        self.assertEqual(within(2, [[1, 0, 2], [-1, 0, -2], [1, 1, 1], [0, -1, 9]]), [2, 2, 1, -1, 1])

    def test_a_side_where_the_second_and_then_the_third_tell(self):
        box = [[1, 0, 0, 1], [-1, 0, 0, 0], [0, 1, 0, 2], [0, -1, 0, 0], [0, 0, 2, 3], [0, 0, -1, 0]]
        self.assertEqual(within(3, box), [2, 1, 1, 2, 1, 3, 2])
        # Where the first is 1, the second goes up to 2 only where the third is 0.
        self.assertEqual(within(3, box + [[0, 1, 1, 2]]), [2, 1, 1, 2, 1, 0, 1])
        self.assertEqual(within(3, box + [[0, 1, -1, 1]]), [2, 1, 1, 2, 1, 3, 2])

    def test_an_edge_where_the_third_tells(self):
        # Where the first is greatest, the second is 1 at every place.
        conditions = [[1, 1, 0, 3], [1, -1, 0, 1], [0, 0, 3, 4], [0, 0, -1, 0]]
        self.assertEqual(within(3, conditions), [2, 2, 1, 1, 1, 4, 3])

    def test_a_later_number_has_an_end_where_the_first_is_greatest(self):
        # Over all places the second number has no end, but where the first is 1 it has.
        self.assertEqual(within(2, [[1, 0, 1], [100, 1, 103]]), [2, 1, 1, 3, 1])
        self.assertEqual(within(3, [[1, 0, 0, 1], [100, 1, 0, 103], [0, 50, 1, 151]]), [2, 1, 1, 3, 1, 1, 1])

    def test_without_end_the_other_way_only(self):
        self.assertEqual(within(1, [[1, -7]]), [2, -7, 1])
        self.assertEqual(within(3, [[1, 0, 0, 0], [0, 1, 0, -1], [0, 0, 1, -2]]), [2, 0, 1, -1, 1, -2, 1])

    def test_conditions_that_stand_twice_and_of_all_zeros(self):
        self.assertEqual(within(1, [[1, 1], [0, 0], [1, 1]]), [2, 1, 1])
        self.assertEqual(within(2, BOX + BOX), [2, 3, 1, 2, 1])
        conditions = [[1, 1, 4], [1, 1, 4], [-1, 0, 0], [0, -1, 0], [0, 0, 0], [0, -1, 0], [0, 0, 1], [0, 0, 10000]]
        self.assertEqual(within(2, conditions), [2, 4, 1, 0, 1])

    def test_at_the_limits(self):
        self.assertEqual(within(1, [[1, 10000]]), [2, 10000, 1])
        self.assertEqual(within(1, [[-100, 10000], [1, -10000], [100, 10000]])[0], 0)
        self.assertEqual(within(1, [[100, -9999]]), [2, -9999, 100])
        conditions = [[100, 99, 0, 9999], [-100, -98, 1, -10000], [99, 0, 100, -10000], [0, 100, 99, 10000]]
        self.assertEqual(within(3, conditions), oracle.within(3, conditions))


class Refused(alike.WrongConditions, unittest.TestCase):
    def ask(self, n, direction, conditions):
        return within(n, conditions)

    def test_of_several_the_one_told_first(self):
        self.assertEqual(within(0, [[]] * 9), [-3])
        self.assertEqual(within(4, [[1, 1]]), [-3])
        self.assertEqual(within(4, [[0, 0, 0, 0, -1]]), [-3])
        self.assertEqual(within(1, [[101, 1]] * 9), [-2])
        self.assertEqual(within(1, [[0, -1]] * 9), [-2])
        self.assertEqual(within(2, [[]] * 10), [-2])
        self.assertEqual(within(1, [[0, -1], [1, 10001]]), [-1])
        self.assertEqual(within(1, [[0, -1], [1]]), [-1])


class AgainstTheSecondWay(unittest.TestCase):
    def check(self, asked):
        kinds = {}
        for n, direction, conditions in asked:
            answer = within(n, conditions)
            self.assertEqual(answer, oracle.within(n, conditions), (n, conditions))
            kinds[answer[0]] = True
        return sorted(kinds)

    def test_small_numbers(self):
        self.assertEqual(self.check(samples.questions(51, 1500, 8, 2, 3)), [0, 1, 2])

    def test_greater_numbers(self):
        self.assertEqual(self.check(samples.questions(52, 600, 8, 9, 20)), [0, 1, 2])

    def test_boxes(self):
        self.assertEqual(self.check(samples.boxed_questions(53, 600, 3, 6)), [0, 2])

    def test_all_that_is_allowed(self):
        self.assertEqual(self.check(samples.boxed_questions(54, 300, 100, 10000)), [0, 2])


class WhatProvesIt(unittest.TestCase):
    def check_parts(self, n, conditions, answer):
        sums = [Fraction(0)] * (n + 1)
        for k in range(answer[1]):
            number, above, below = answer[2 + 3 * k:5 + 3 * k]
            self.assertGreater(above, 0)
            sums = [total + Fraction(above, below) * value for total, value in zip(sums, conditions[number])]
        self.assertEqual(sums, [0] * n + [-1])

    def test_each_answer(self):
        for n, direction, conditions in samples.questions(55, 900, 8, 3, 5):
            answer = within(n, conditions)
            if answer[0] == 0:
                self.check_parts(n, conditions, answer)
            elif answer[0] == 2:
                numbers = [Fraction(answer[1 + 2 * k], answer[2 + 2 * k]) for k in range(n)]
                for condition in conditions:
                    self.assertLessEqual(oracle.product(condition[:n], numbers), condition[n])


class HandedIn(alike.HandedIn, unittest.TestCase):
    refused = alike.REFUSED[:3]

    def ask(self, n, direction, conditions):
        return within(n, conditions)
