import unittest

import alike
import oracle
import samples
from witnessedmost.linear import needed


class NoneNeeded(unittest.TestCase):
    def test_no_condition(self):
        for n in (1, 2, 3):
            self.assertEqual(needed(n, [0] * n, []), [0])

    def test_a_direction_of_all_zeros(self):
        for n in (1, 2, 3):
            conditions = [[1] * n + [3], [-1] * n + [-3], [0] * n + [0], [0] * n + [4]]
            self.assertEqual(needed(n, [0] * n, conditions), [0])
            self.assertEqual(needed(n, [0] * n, [[1] * n + [-5]] * 8), [0])

    def test_conditions_that_stand_twice(self):
        self.assertEqual(needed(1, [1], [[1, 1], [1, 1]]), [0])
        self.assertEqual(needed(2, [1, 1], [[1, 0, 1], [0, 1, 2]] * 4), [0])
        self.assertEqual(needed(3, [1, 1, 1], [[1, 1, 1, 2], [1, 1, 1, 2]]), [0])

    def test_conditions_that_say_the_same_in_other_numbers(self):
        self.assertEqual(needed(1, [1], [[2, 2], [3, 3], [1, 2]]), [0])
        self.assertEqual(needed(2, [1, 1], [[1, 1, 3], [2, 2, 6]]), [0])

    def test_each_can_be_spared_beside_the_others(self):
        # All four hold at the best place, 1 and 1; three of them, whichever, leave a way worth as much.
        self.assertEqual(needed(2, [1, 1], [[2, 1, 3], [1, 0, 1], [0, 1, 1], [1, 2, 3]]), [0])
        self.assertEqual(needed(2, [1, 1], [[1, 0, 1], [0, 1, 1], [1, 1, 2]]), [0])


class Needed(unittest.TestCase):
    def test_without_end_without_it(self):
        self.assertEqual(needed(1, [1], [[1, 4]]), [1, 0])
        self.assertEqual(needed(1, [-3], [[1, 7], [-2, 5]]), [1, 1])
        self.assertEqual(needed(2, [1, 1], [[2, 1, 3], [1, 2, -2]]), [2, 0, 1])
        self.assertEqual(needed(3, [1, 1, 1], [[1, 1, 0, 1], [0, 1, 1, 2], [1, 0, 1, -4]]), [3, 0, 1, 2])

    def test_without_end_where_the_most_is_zero(self):
        self.assertEqual(needed(1, [1], [[1, 0]]), [1, 0])
        self.assertEqual(needed(2, [0, -1], [[0, 0, 0], [0, -1, 0]]), [1, 1])

    def test_another_most_without_it(self):
        self.assertEqual(needed(1, [1], [[1, 2], [1, 1]]), [1, 1])
        self.assertEqual(needed(1, [1], [[3, 1], [1, 0], [2, 1]]), [1, 1])
        self.assertEqual(needed(2, [1, 1], [[1, 1, 9], [1, 0, 2], [0, 1, 3]]), [2, 1, 2])

    def test_another_most_for_the_one_and_no_end_for_the_other(self):
        # Without condition 1 the most is 9, without condition 2 it has no end.
        self.assertEqual(needed(2, [1, 2], [[1, 0, 5], [1, 0, 2], [0, 1, 2]]), [2, 1, 2])

    def test_the_most_differs_by_a_fraction(self):
        self.assertEqual(needed(1, [1], [[100, 9999], [99, 9899], [1, 100]]), [1, 1])
        self.assertEqual(needed(1, [1], [[99, 9899], [100, 9999]]), [1, 0])

    def test_flour_and_hours(self):
        conditions = [[1, 1, 4], [1, 3, 6], [1, 0, 3], [-1, 0, 0], [0, -1, 0]]
        self.assertEqual(needed(2, [3, 2], conditions), [1, 2])

    def test_conditions_that_hold_at_the_best_place_and_are_not_needed(self):
        # All of them hold at the best place, 2 and 3. Condition 2 is in no way to make the direction.
        self.assertEqual(needed(2, [1, 1], [[1, 0, 2], [0, 1, 3], [-1, -1, -5]]), [2, 0, 1])
        # Conditions 1 and 2 stand in for one another.
        self.assertEqual(needed(2, [1, 1], [[1, 0, 2], [1, 2, 8], [0, 1, 3]]), [1, 0])
        self.assertEqual(needed(2, [1, 1], [[1, 0, 2], [-1, 1, 1], [0, 1, 3], [-1, 0, -2]]), [1, 0])

    def test_conditions_of_all_zeros(self):
        self.assertEqual(needed(1, [1], [[0, 0], [1, 2], [0, 5]]), [1, 1])
        self.assertEqual(needed(3, [0, 0, 2], [[0, 0, 0, 0], [0, 0, 1, 2], [0, 0, 0, 0]]), [1, 1])

    def test_one_of_them_stands_twice(self):
        self.assertEqual(needed(2, [1, 1], [[0, 1, 1], [1, 0, 1], [0, 1, 1]]), [1, 1])
        self.assertEqual(needed(3, [1, 1, 1], [[1, 0, 0, 1], [0, 2, 0, 1], [0, 0, 1, 1], [0, 2, 0, 1]]), [2, 0, 2])

    def test_eight_conditions(self):
        self.assertEqual(needed(1, [1], [[1, 9], [1, 8], [2, 15], [3, 23], [-1, 0], [5, 38], [0, 0], [1, 10]]), [1, 2])
        conditions = [[-1, 0, 0, 0], [0, -1, 0, 0], [0, 0, -1, 0], [0, 0, 0, 9], [1, 1, 1, 100], [1, 1, 0, 4],
                      [0, 1, 1, 4], [1, 0, 1, 4]]
        self.assertEqual(needed(3, [1, 1, 1], conditions), [3, 5, 6, 7])
        self.assertEqual(needed(2, [-1, -1], [[1, 0, 5], [-1, 0, 1]] * 3 + [[0, 1, 5], [0, -1, 1]]), [1, 7])

    def test_conditions_that_just_touch(self):
        self.assertEqual(needed(1, [1], [[1, 3], [-1, -3]]), [1, 0])
        self.assertEqual(needed(1, [-2], [[1, 3], [-1, -3]]), [1, 1])


class NoPlaceAndNoEnd(unittest.TestCase):
    def test_no_condition_and_a_direction(self):
        for n in (1, 2, 3):
            self.assertEqual(needed(n, [0] * (n - 1) + [1], []), [-7])
            self.assertEqual(needed(n, [0] * (n - 1) + [101], []), [-4])

    def test_no_place_goes_ahead_though_one_is_there_without_a_condition(self):
        self.assertEqual(needed(1, [1], [[1, 2], [-1, -3], [1, 5]]), [-6])
        self.assertEqual(needed(1, [0], [[0, -1]]), [-6])


class Refused(alike.Refusals, unittest.TestCase):
    def ask(self, n, direction, conditions):
        return needed(n, direction, conditions)


class HandedIn(alike.HandedIn, unittest.TestCase):
    def ask(self, n, direction, conditions):
        return needed(n, direction, conditions)


class AgainstTheSecondWay(unittest.TestCase):
    def check(self, asked):
        kinds = {}
        for n, direction, conditions in asked:
            answer = needed(n, direction, conditions)
            self.assertEqual(answer, oracle.needed(n, direction, conditions), (n, direction, conditions))
            kinds[answer[0]] = True
        return sorted(kinds)

    def test_small_numbers(self):
        self.assertEqual(self.check(samples.questions(51, 900, 8, 2, 3)), [-7, -6, 0, 1, 2, 3])

    def test_greater_numbers(self):
        self.assertEqual(self.check(samples.questions(52, 300, 8, 9, 20)), [-7, -6, 0, 1, 2, 3])

    def test_boxes(self):
        self.assertEqual(self.check(samples.boxed_questions(53, 300, 3, 6)), [-6, 0, 1, 2, 3])

    def test_all_that_is_allowed(self):
        self.assertEqual(self.check(samples.boxed_questions(54, 150, 100, 10000)), [-6, 0, 1, 2, 3])
