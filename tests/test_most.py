import copy
import unittest

import handed
import oracle
import samples
from witnessedmost.linear import most


class NoPlace(unittest.TestCase):
    def test_one_condition_of_all_zeros_below_zero(self):
        self.assertEqual(most(1, [1], [[0, -1]]), [0, 1, 0, 1, 1])
        self.assertEqual(most(2, [1, 0], [[0, 0, -7]]), [0, 1, 0, 1, 7])
        self.assertEqual(most(3, [0, 0, 0], [[1, 0, 0, 5], [0, 0, 0, -10000]]), [0, 1, 1, 1, 10000])

    def test_two_conditions_against_each_other(self):
        self.assertEqual(most(1, [1], [[1, 2], [-1, -3]]), [0, 2, 0, 1, 1, 1, 1, 1])
        self.assertEqual(most(1, [1], [[2, 1], [-3, -4]]), [0, 2, 0, 3, 5, 1, 2, 5])

    def test_n_and_one_conditions(self):
        self.assertEqual(most(2, [1, 1], [[1, 1, 1], [-1, 0, -1], [0, -1, -1]]), [0, 3, 0, 1, 1, 1, 1, 1, 2, 1, 1])
        conditions = [[1, 1, 1, 2], [-1, 0, 0, -1], [0, -1, 0, -1], [0, 0, -1, -1]]
        self.assertEqual(most(3, [0, 0, 0], conditions), [0, 4, 0, 1, 1, 1, 1, 1, 2, 1, 1, 3, 1, 1])

    def test_parts_are_told_with_nothing_in_common(self):
        self.assertEqual(most(1, [0], [[4, 2], [-4, -6]]), [0, 2, 0, 1, 4, 1, 1, 4])

    def test_fewer_conditions_go_first(self):
        self.assertEqual(most(1, [1], [[1, 0], [-1, -1], [0, -2]]), [0, 1, 2, 1, 2])
        conditions = [[1, 1, 1], [-1, 0, -1], [0, -1, -1], [0, 1, 0]]
        self.assertEqual(most(2, [1, 1], conditions), [0, 2, 2, 1, 1, 3, 1, 1])

    def test_of_as_many_the_lesser_condition_goes_first(self):
        self.assertEqual(most(1, [1], [[0, -3], [0, -2]]), [0, 1, 0, 1, 3])
        self.assertEqual(most(1, [1], [[1, 5], [1, 0], [-1, -9], [-1, -1]]), [0, 2, 0, 1, 4, 2, 1, 4])
        self.assertEqual(most(1, [1], [[1, 5], [1, 0], [-1, -1], [-1, -2]]), [0, 2, 1, 1, 1, 2, 1, 1])

    def test_conditions_that_just_touch_leave_a_place(self):
        self.assertEqual(most(1, [1], [[1, 3], [-1, -3]])[:3], [2, 3, 1])
        self.assertEqual(most(1, [0], [[0, 0]]), [2, 0, 1, 0])

    def test_that_there_is_no_place_goes_ahead_of_no_end(self):
        self.assertEqual(most(2, [0, 1], [[1, 0, 0], [-1, 0, -2]]), [0, 2, 0, 1, 2, 1, 1, 2])


class WithoutEnd(unittest.TestCase):
    def test_no_condition(self):
        self.assertEqual(most(1, [1], []), [1])
        self.assertEqual(most(2, [0, -1], []), [1])
        self.assertEqual(most(3, [0, 0, 1], []), [1])

    def test_one_condition(self):
        self.assertEqual(most(1, [1], [[-1, 0]]), [1])
        self.assertEqual(most(2, [1, 1], [[1, 0, 5]]), [1])
        self.assertEqual(most(3, [1, 2, 3], [[1, 2, 4, 5]]), [1])

    def test_conditions_of_all_zeros_bound_nothing(self):
        self.assertEqual(most(1, [1], [[0, 0]]), [1])
        self.assertEqual(most(2, [1, 0], [[0, 0, 4]] * 8), [1])

    def test_parts_of_zero_and_below_make_nothing(self):
        self.assertEqual(most(2, [1, 1], [[1, 0, 5], [0, -1, 5]]), [1])
        self.assertEqual(most(2, [1, -1], [[1, 0, 5], [0, 1, 5]]), [1])


class TheMost(unittest.TestCase):
    def test_direction_of_all_zeros_has_no_prices(self):
        for n in (1, 2, 3):
            self.assertEqual(most(n, [0] * n, []), [2, 0, 1, 0])
            self.assertEqual(most(n, [0] * n, [[1] * n + [-5]]), [2, 0, 1, 0])
            self.assertEqual(most(n, [0] * n, [[1] * n + [5]] * 8), [2, 0, 1, 0])

    def test_one_condition(self):
        self.assertEqual(most(1, [3], [[2, 5]]), [2, 15, 2, 1, 0, 3, 2])
        self.assertEqual(most(2, [2, 4], [[3, 6, 1]]), [2, 2, 3, 1, 0, 2, 3])
        self.assertEqual(most(3, [-1, 0, 5], [[-1, 0, 5, 8]]), [2, 8, 1, 1, 0, 1, 1])

    def test_below_zero_zero_and_above(self):
        self.assertEqual(most(1, [1], [[2, -3]]), [2, -3, 2, 1, 0, 1, 2])
        self.assertEqual(most(1, [1], [[2, 0]]), [2, 0, 1, 1, 0, 1, 2])
        self.assertEqual(most(1, [1], [[2, 3]]), [2, 3, 2, 1, 0, 1, 2])
        self.assertEqual(most(1, [-1], [[-1, -1]]), [2, -1, 1, 1, 0, 1, 1])

    def test_fractions_have_nothing_in_common(self):
        self.assertEqual(most(1, [6], [[4, 2]]), [2, 3, 1, 1, 0, 3, 2])
        self.assertEqual(most(1, [100], [[-100, 10000], [100, 10000]]), [2, 10000, 1, 1, 1, 1, 1])
        self.assertEqual(most(1, [2], [[6, -4]]), [2, -4, 3, 1, 0, 1, 3])

    def test_flour_and_hours(self):
        conditions = [[1, 1, 4], [1, 3, 6], [1, 0, 3], [-1, 0, 0], [0, -1, 0]]
        self.assertEqual(most(2, [3, 2], conditions), [2, 11, 1, 2, 0, 2, 1, 2, 1, 1])

    def test_three_numbers_and_eight_conditions(self):
        conditions = [[1, 1, 0, 4], [0, 1, 1, 4], [1, 0, 1, 4], [1, 1, 1, 100], [-1, 0, 0, 0], [0, -1, 0, 0],
                      [0, 0, -1, 0], [0, 0, 0, 9]]
        self.assertEqual(most(3, [1, 1, 1], conditions), [2, 6, 1, 3, 0, 1, 2, 1, 1, 2, 2, 1, 2])

    def test_one_number_and_eight_conditions(self):
        conditions = [[1, 9], [1, 8], [2, 15], [3, 23], [-1, 0], [5, 38], [0, 0], [1, 10]]
        self.assertEqual(most(1, [1], conditions), [2, 15, 2, 1, 2, 1, 2])

    def test_a_condition_of_all_zeros_is_no_price(self):
        self.assertEqual(most(1, [1], [[0, 0], [1, 2]]), [2, 2, 1, 1, 1, 1, 1])
        self.assertEqual(most(2, [1, 1], [[0, 0, 0], [1, 1, 2]]), [2, 2, 1, 1, 1, 1, 1])

    def test_at_the_limits(self):
        self.assertEqual(most(1, [100], [[1, 10000]]), [2, 1000000, 1, 1, 0, 100, 1])
        self.assertEqual(most(1, [-100], [[-1, -10000]]), [2, -1000000, 1, 1, 0, 100, 1])
        conditions = [[100, 99, 0, 9999], [0, 100, 99, 10000], [99, 0, 100, -10000]]
        self.assertEqual(most(3, [100, -100, 97], conditions), oracle.most(3, [100, -100, 97], conditions))


class PricesInOrder(unittest.TestCase):
    def test_the_least_worth_wins_over_the_order(self):
        self.assertEqual(most(1, [1], [[1, 2], [1, 1]]), [2, 1, 1, 1, 1, 1, 1])
        conditions = [[1, 1, 9], [1, 0, 2], [0, 1, 3]]
        self.assertEqual(most(2, [1, 1], conditions), [2, 5, 1, 2, 1, 1, 1, 2, 1, 1])

    def test_conditions_that_stand_twice(self):
        self.assertEqual(most(1, [1], [[1, 1], [1, 1]]), [2, 1, 1, 1, 0, 1, 1])
        self.assertEqual(most(2, [1, 1], [[1, 0, 1], [1, 0, 1], [0, 1, 1], [0, 1, 1]]), [2, 2, 1, 2, 0, 1, 1, 2, 1, 1])
        self.assertEqual(most(2, [1, 1], [[0, 1, 5], [1, 0, 1], [0, 1, 1], [1, 0, 1]]), [2, 2, 1, 2, 1, 1, 1, 2, 1, 1])

    def test_of_as_little_worth_fewer_conditions_go_first(self):
        conditions = [[1, 0, 1], [0, 1, 1], [1, 1, 2]]
        self.assertEqual(most(2, [1, 1], conditions), [2, 2, 1, 1, 2, 1, 1])
        conditions = [[1, 0, 0, 1], [0, 1, 0, 1], [0, 0, 1, 1], [0, 1, 1, 2]]
        self.assertEqual(most(3, [1, 1, 1], conditions), [2, 3, 1, 2, 0, 1, 1, 3, 1, 1])

    def test_of_as_little_worth_and_as_many_the_lesser_condition_goes_first(self):
        self.assertEqual(most(1, [1], [[3, 3], [2, 2], [1, 1]]), [2, 1, 1, 1, 0, 1, 3])
        conditions = [[2, 1, 3], [1, 0, 1], [0, 1, 1], [1, 2, 3]]
        self.assertEqual(most(2, [1, 1], conditions), [2, 2, 1, 2, 0, 1, 2, 2, 1, 2])


class Refused(unittest.TestCase):
    def test_n(self):
        for n in (0, 4, 5, 4294967295):
            self.assertEqual(most(n, [1] * min(n, 6), []), [-3])
        for n in (1, 3):
            self.assertEqual(most(n, [1] * n, []), [1])

    def test_how_many_conditions(self):
        for n in (1, 2, 3):
            row = [1] * n + [5]
            self.assertEqual(most(n, [1] * n, [row] * 8), [2, 5, 1, 1, 0, 1, 1])
            self.assertEqual(most(n, [1] * n, [row] * 9), [-2])
            self.assertEqual(most(n, [1] * n, [row] * 10), [-2])

    def test_how_many_numbers_a_condition_has(self):
        for n in (1, 2, 3):
            for count in range(7):
                answer = most(n, [0] * n, [[1] * n + [1], [1] * count])
                self.assertEqual(answer, [2, 0, 1, 0] if count == n + 1 else [-1])

    def test_how_great_a_condition_is(self):
        for n in (1, 2, 3):
            for k in range(n + 1):
                limit = 100 if k < n else 10000
                for sign in (1, -1):
                    row = [1] * n + [0]
                    row[k] = sign * limit
                    self.assertEqual(most(n, [0] * n, [row]), [2, 0, 1, 0])
                    row[k] = sign * (limit + 1)
                    self.assertEqual(most(n, [0] * n, [row]), [-1])
                    row[k] = sign * 4294967295
                    self.assertEqual(most(n, [0] * n, [[0] * (n + 1), row]), [-1])

    def test_how_many_numbers_the_direction_has(self):
        for n in (1, 2, 3):
            for count in range(7):
                self.assertEqual(most(n, [0] * count, []), [2, 0, 1, 0] if count == n else [-4])

    def test_how_great_the_direction_is(self):
        for n in (1, 2, 3):
            for k in range(n):
                for sign in (1, -1):
                    direction = [0] * n
                    direction[k] = sign * 100
                    self.assertEqual(most(n, direction, []), [1])
                    direction[k] = sign * 101
                    self.assertEqual(most(n, direction, []), [-4])
                    direction[k] = sign * 4294967295
                    self.assertEqual(most(n, direction, []), [-4])

    def test_of_several_the_one_told_first(self):
        self.assertEqual(most(0, [], [[]] * 9), [-3])
        self.assertEqual(most(4, [101], [[1, 1]]), [-3])
        self.assertEqual(most(1, [1], [[101, 1]] * 9), [-2])
        self.assertEqual(most(1, [101], [[1, 1]] * 9), [-2])
        self.assertEqual(most(1, [101], [[1, 1], [1, 10001]]), [-1])
        self.assertEqual(most(2, [1], [[1, 1]]), [-1])
        self.assertEqual(most(1, [101], [[0, -1]]), [-4])


class AgainstTheSecondWay(unittest.TestCase):
    def check(self, asked):
        kinds = {}
        for n, direction, conditions in asked:
            answer = most(n, direction, conditions)
            self.assertEqual(answer, oracle.most(n, direction, conditions), (n, direction, conditions))
            kinds[answer[0]] = True
        return sorted(kinds)

    def test_small_numbers(self):
        self.assertEqual(self.check(samples.questions(11, 1500, 8, 2, 3)), [0, 1, 2])

    def test_greater_numbers(self):
        self.assertEqual(self.check(samples.questions(12, 600, 8, 9, 20)), [0, 1, 2])

    def test_boxes(self):
        self.assertEqual(self.check(samples.boxed_questions(13, 600, 3, 6)), [0, 2])

    def test_all_that_is_allowed(self):
        self.assertEqual(self.check(samples.boxed_questions(14, 300, 100, 10000)), [0, 2])


class HandedIn(unittest.TestCase):
    def test_stays_as_it_was(self):
        for n, direction, conditions in samples.questions(15, 120, 8, 3, 4):
            before = copy.deepcopy((direction, conditions))
            answer = most(n, direction, conditions)
            self.assertEqual((direction, conditions), before)
            self.assertEqual(most(n, *handed.kept(direction, conditions)), answer)

    def test_stays_as_it_was_where_refused(self):
        for n, direction, conditions in ((0, [1], [[1, 1]]), (1, [1], [[1, 1]] * 9), (1, [1], [[1]]), (1, [101], [])):
            before = copy.deepcopy((direction, conditions))
            answer = most(n, *handed.kept(direction, conditions))
            self.assertEqual(len(answer), 1)
            self.assertEqual(most(n, direction, conditions), answer)
            self.assertEqual((direction, conditions), before)

    def test_nothing_is_kept(self):
        first = most(1, [1], [[2, 3]])
        first.append(7)
        most(2, [1, 1], [])
        self.assertEqual(most(1, [1], [[2, 3]]), [2, 3, 2, 1, 0, 1, 2])

    def test_only_whole_numbers_are_answered(self):
        for n, direction, conditions in samples.questions(16, 120, 8, 3, 4):
            answer = most(n, direction, conditions)
            self.assertIs(type(answer), list)
            self.assertTrue(all(type(number) is int for number in answer))
