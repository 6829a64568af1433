import copy
import unittest

import handed
import oracle
import samples
from witnessedmost.linear import place


class JustOne(unittest.TestCase):
    def test_one_number(self):
        self.assertEqual(place(1, [1], [[1, 4]]), [2, 4, 1])
        self.assertEqual(place(1, [-3], [[-2, 5]]), [2, -5, 2])
        self.assertEqual(place(1, [5], [[7, 0]]), [2, 0, 1])

    def test_two_numbers(self):
        conditions = [[1, 1, 4], [1, 3, 6], [1, 0, 3], [-1, 0, 0], [0, -1, 0]]
        self.assertEqual(place(2, [3, 2], conditions), [2, 3, 1, 1, 1])
        self.assertEqual(place(2, [1, 1], [[2, 1, 3], [1, 2, -2]]), [2, 8, 3, -7, 3])

    def test_three_numbers(self):
        conditions = [[1, 1, 0, 1], [0, 1, 1, 2], [1, 0, 1, -4]]
        self.assertEqual(place(3, [1, 1, 1], conditions), [2, -5, 2, 7, 2, -3, 2])

    def test_fractions_have_nothing_in_common(self):
        self.assertEqual(place(1, [10], [[6, 4]]), [2, 2, 3])
        self.assertEqual(place(2, [1, 1], [[4, 0, -6], [0, 100, 10000]]), [2, -3, 2, 100, 1])

    def test_direction_of_all_zeros_with_one_place_within(self):
        self.assertEqual(place(1, [0], [[1, 3], [-1, -3]]), [2, 3, 1])
        self.assertEqual(place(2, [0, 0], [[1, 1, 0], [-1, 0, 0], [0, -1, 0]]), [2, 0, 1, 0, 1])
        conditions = [[1, 1, 1, 3], [-1, 0, 0, -1], [0, -1, 0, -1], [0, 0, -1, -1]]
        self.assertEqual(place(3, [0, 0, 0], conditions), [2, 1, 1, 1, 1, 1, 1])

    def test_a_needless_condition_through_the_best_place(self):
        self.assertEqual(place(2, [1, 1], [[1, 0, 1], [0, 1, 1], [1, 1, 2]]), [2, 1, 1, 1, 1])

    def test_conditions_that_stand_twice(self):
        self.assertEqual(place(1, [1], [[1, 1], [1, 1]]), [2, 1, 1])
        self.assertEqual(place(2, [1, 1], [[1, 0, 1], [0, 1, 2]] * 4), [2, 1, 1, 2, 1])

    def test_conditions_of_all_zeros(self):
        self.assertEqual(place(1, [1], [[0, 0], [1, 1], [0, 5]]), [2, 1, 1])
        self.assertEqual(place(2, [1, 1], [[0, 0, 0], [1, 0, -1], [0, 1, -2]]), [2, -1, 1, -2, 1])


class MoreThanOne(unittest.TestCase):
    def test_one_number(self):
        self.assertEqual(place(1, [0], [[1, 5], [-1, 5]]), [1, 5, 1])
        self.assertEqual(place(1, [0], [[2, -5], [-1, 5]]), [1, -5, 2])

    def test_the_first_number_is_greatest(self):
        box = [[1, 0, 3], [-1, 0, 0], [0, 1, 2], [0, -1, 0]]
        self.assertEqual(place(2, [0, 1], box), [1, 3, 1, 2, 1])
        self.assertEqual(place(2, [0, -1], box), [1, 3, 1, 0, 1])
        self.assertEqual(place(2, [1, 1], [[1, 1, 4], [-1, 0, 0], [0, -1, 0]]), [1, 4, 1, 0, 1])

    def test_of_these_the_second_is_greatest(self):
        box = [[1, 0, 3], [-1, 0, 0], [0, 1, 2], [0, -1, 0]]
        self.assertEqual(place(2, [1, 0], box), [1, 3, 1, 2, 1])
        self.assertEqual(place(2, [-1, 0], box), [1, 0, 1, 2, 1])
        self.assertEqual(place(2, [0, 0], box), [1, 3, 1, 2, 1])

    def test_of_these_the_third_is_greatest(self):
        box = [[1, 0, 0, 1], [-1, 0, 0, 0], [0, 1, 0, 2], [0, -1, 0, 0], [0, 0, 2, 3], [0, 0, -1, 0]]
        self.assertEqual(place(3, [0, 0, 0], box), [1, 1, 1, 2, 1, 3, 2])
        self.assertEqual(place(3, [1, 1, 0], box), [1, 1, 1, 2, 1, 3, 2])
        self.assertEqual(place(3, [0, 0, -1], box), [1, 1, 1, 2, 1, 0, 1])
        corner = [[1, 1, 1, 6], [-1, 0, 0, 0], [0, -1, 0, 0], [0, 0, -1, 0]]
        self.assertEqual(place(3, [1, 1, 1], corner), [1, 6, 1, 0, 1, 0, 1])

    def test_without_end_the_other_way_only(self):
        self.assertEqual(place(1, [0], [[1, -7]]), [1, -7, 1])
        self.assertEqual(place(2, [1, 0], [[1, 0, 2], [0, 3, 1]]), [1, 2, 1, 1, 3])
        self.assertEqual(place(2, [1, 1], [[1, 1, 0], [1, 0, 5]]), [1, 5, 1, -5, 1])
        conditions = [[1, 0, 0, 0], [0, 1, 0, -1], [0, 0, 1, -2]]
        self.assertEqual(place(3, [0, 0, 0], conditions), [1, 0, 1, -1, 1, -2, 1])
        self.assertEqual(place(3, [0, 1, 1], conditions), [1, 0, 1, -1, 1, -2, 1])

    def test_only_a_later_number_differs(self):
        conditions = [[1, 0, 0, 1], [0, 1, 0, 1], [0, 0, 1, 1], [0, 0, -1, 0]]
        self.assertEqual(place(3, [1, 1, 0], conditions), [1, 1, 1, 1, 1, 1, 1])

    def test_conditions_that_stand_twice_and_of_all_zeros(self):
        conditions = [[1, 1, 4], [1, 1, 4], [-1, 0, 0], [0, -1, 0], [0, 0, 0], [0, -1, 0], [0, 0, 1]]
        self.assertEqual(place(2, [2, 2], conditions), [1, 4, 1, 0, 1])


class WithoutEnd(unittest.TestCase):
    def test_no_condition(self):
        for n in (1, 2, 3):
            self.assertEqual(place(n, [0] * n, []), [0])

    def test_the_first_number(self):
        self.assertEqual(place(1, [0], [[-1, 0]]), [0])
        self.assertEqual(place(2, [0, 1], [[0, 1, 5]]), [0])
        self.assertEqual(place(2, [1, 1], [[1, 1, 5]]), [0])
        self.assertEqual(place(3, [0, 1, 1], [[0, 1, 0, 5], [0, 0, 1, 5]]), [0])

    def test_the_first_has_an_end_and_the_second_has_not(self):
        self.assertEqual(place(2, [1, 0], [[1, 0, 5]]), [0])
        self.assertEqual(place(2, [0, 0], [[1, 0, 5], [0, -1, 0]]), [0])
        self.assertEqual(place(3, [1, 0, 0], [[1, 0, 0, 5], [0, 0, 1, 5]]), [0])

    def test_only_the_third_has_no_end(self):
        self.assertEqual(place(3, [1, 1, 0], [[1, 0, 0, 5], [0, 1, 0, 5]]), [0])
        self.assertEqual(place(3, [0, 0, 0], [[1, 0, 0, 5], [0, 1, 0, 5], [0, 0, -1, 5]]), [0])

    def test_a_later_number_has_an_end_where_the_first_is_greatest(self):
        # Over all places the second number has no end, but where the first is 1 it has.
        self.assertEqual(place(2, [0, 0], [[1, 0, 1], [100, 1, 103]]), [1, 1, 1, 3, 1])


class Refused(unittest.TestCase):
    def test_n(self):
        for n in (0, 4, 5, 4294967295):
            self.assertEqual(place(n, [1] * min(n, 6), []), [-3])
        for n in (1, 3):
            self.assertEqual(place(n, [0] * n, []), [0])

    def test_how_many_conditions(self):
        for n in (1, 2, 3):
            box = [[int(k == j) for j in range(n)] + [5] for k in range(n)]
            rows = box + [[0] * n + [0]] * (8 - n)
            self.assertEqual(place(n, [1] * n, rows), [2] + [5, 1] * n)
            self.assertEqual(place(n, [1] * n, rows + [[0] * n + [0]]), [-2])
            self.assertEqual(place(n, [1] * n, rows + rows[:2]), [-2])

    def test_how_many_numbers_a_condition_has(self):
        for n in (1, 2, 3):
            for count in range(7):
                answer = place(n, [0] * n, [[0] * n + [1], [0] * count])
                self.assertEqual(answer, [0] if count == n + 1 else [-1])

    def test_how_great_a_condition_is(self):
        for n in (1, 2, 3):
            for k in range(n + 1):
                limit = 100 if k < n else 10000
                for sign in (1, -1):
                    row = [1] * n + [0]
                    row[k] = sign * limit
                    self.assertIn(place(n, [0] * n, [row])[0], (0, 1))
                    row[k] = sign * (limit + 1)
                    self.assertEqual(place(n, [0] * n, [row]), [-1])
                    row[k] = sign * 4294967295
                    self.assertEqual(place(n, [0] * n, [[0] * (n + 1), row]), [-1])

    def test_how_many_numbers_the_direction_has(self):
        for n in (1, 2, 3):
            for count in range(7):
                self.assertEqual(place(n, [0] * count, []), [0] if count == n else [-4])

    def test_how_great_the_direction_is(self):
        for n in (1, 2, 3):
            for k in range(n):
                for sign in (1, -1):
                    direction = [0] * n
                    direction[k] = sign * 100
                    self.assertEqual(place(n, direction, []), [-7])
                    direction[k] = sign * 101
                    self.assertEqual(place(n, direction, []), [-4])
                    direction[k] = sign * 4294967295
                    self.assertEqual(place(n, direction, []), [-4])

    def test_no_place_within(self):
        self.assertEqual(place(1, [1], [[1, 2], [-1, -3]]), [-6])
        self.assertEqual(place(1, [1], [[1, 2], [-1, -2]]), [2, 2, 1])
        self.assertEqual(place(2, [0, 0], [[0, 0, -1]]), [-6])
        self.assertEqual(place(2, [1, 1], [[1, 1, 1], [-1, 0, -1], [0, -1, -1]]), [-6])
        conditions = [[1, 1, 1, 2], [-1, 0, 0, -1], [0, -1, 0, -1], [0, 0, -1, -1]]
        self.assertEqual(place(3, [1, 0, 0], conditions), [-6])

    def test_the_most_goes_on_without_end(self):
        self.assertEqual(place(1, [1], []), [-7])
        self.assertEqual(place(1, [1], [[-1, 0]]), [-7])
        self.assertEqual(place(2, [1, 1], [[1, 0, 5]]), [-7])
        self.assertEqual(place(3, [1, 2, 3], [[1, 2, 4, 5]]), [-7])

    def test_of_several_the_one_told_first(self):
        self.assertEqual(place(0, [], [[]] * 9), [-3])
        self.assertEqual(place(4, [101], [[1, 1]]), [-3])
        self.assertEqual(place(1, [101], [[101, 1]] * 9), [-2])
        self.assertEqual(place(1, [101], [[0, -1], [1, 10001]]), [-1])
        self.assertEqual(place(1, [1], [[0, -1], [1]]), [-1])
        self.assertEqual(place(1, [101], [[0, -1]]), [-4])
        self.assertEqual(place(1, [101], []), [-4])
        self.assertEqual(place(2, [0, 1], [[1, 0, 0], [-1, 0, -2]]), [-6])


class AgainstTheSecondWay(unittest.TestCase):
    def check(self, asked):
        kinds = {}
        for n, direction, conditions in asked:
            answer = place(n, direction, conditions)
            self.assertEqual(answer, oracle.place(n, direction, conditions), (n, direction, conditions))
            kinds[answer[0]] = True
        return sorted(kinds)

    def test_small_numbers(self):
        self.assertEqual(self.check(samples.questions(21, 1500, 8, 2, 3)), [-7, -6, 0, 1, 2])

    def test_greater_numbers(self):
        self.assertEqual(self.check(samples.questions(22, 600, 8, 9, 20)), [-7, -6, 0, 1, 2])

    def test_boxes(self):
        self.assertEqual(self.check(samples.boxed_questions(23, 600, 3, 6)), [-6, 1, 2])

    def test_all_that_is_allowed(self):
        self.assertEqual(self.check(samples.boxed_questions(24, 300, 100, 10000)), [-6, 1, 2])


class HandedIn(unittest.TestCase):
    def test_stays_as_it_was(self):
        for n, direction, conditions in samples.questions(25, 120, 8, 3, 4):
            before = copy.deepcopy((direction, conditions))
            answer = place(n, direction, conditions)
            self.assertEqual((direction, conditions), before)
            self.assertEqual(place(n, *handed.kept(direction, conditions)), answer)

    def test_stays_as_it_was_where_refused(self):
        for n, direction, conditions in ((0, [1], [[1, 1]]), (1, [1], [[1, 1]] * 9), (1, [1], [[1]]), (1, [101], []),
                                         (1, [1], [[0, -1]]), (1, [1], [[-1, 0]])):
            before = copy.deepcopy((direction, conditions))
            answer = place(n, *handed.kept(direction, conditions))
            self.assertEqual(len(answer), 1)
            self.assertEqual(place(n, direction, conditions), answer)
            self.assertEqual((direction, conditions), before)

    def test_nothing_is_kept(self):
        first = place(1, [1], [[2, 3]])
        first.append(7)
        place(2, [1, 1], [])
        self.assertEqual(place(1, [1], [[2, 3]]), [2, 3, 2])

    def test_only_whole_numbers_are_answered(self):
        for n, direction, conditions in samples.questions(26, 120, 8, 3, 4):
            answer = place(n, direction, conditions)
            self.assertIs(type(answer), list)
            self.assertTrue(all(type(number) is int for number in answer))
