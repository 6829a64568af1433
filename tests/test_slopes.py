import unittest

import alike
import oracle
import samples
from witnessedmost.linear import slopes


def all_slopes(n, direction, conditions):
    return [slopes(n, k, direction, conditions) for k in range(len(conditions))]


class TheSame(unittest.TestCase):
    def test_one_number(self):
        self.assertEqual(slopes(1, 0, [1], [[1, 4]]), [1, 1, 1, 1])
        self.assertEqual(slopes(1, 0, [-3], [[-2, 5]]), [3, 2, 3, 2])
        self.assertEqual(slopes(1, 0, [100], [[1, -10000]]), [100, 1, 100, 1])

    def test_two_numbers(self):
        self.assertEqual(all_slopes(2, [1, 1], [[2, 1, 3], [1, 2, -2]]), [[1, 3, 1, 3], [1, 3, 1, 3]])
        self.assertEqual(all_slopes(2, [4, 6], [[2, 3, 1]]), [[2, 1, 2, 1]])

    def test_three_numbers(self):
        conditions = [[1, 1, 0, 1], [0, 1, 1, 2], [1, 0, 1, -4]]
        self.assertEqual(all_slopes(3, [1, 1, 1], conditions), [[1, 2, 1, 2]] * 3)
        self.assertEqual(all_slopes(3, [3, 3, 4], conditions), [[1, 1, 1, 1], [2, 1, 2, 1], [2, 1, 2, 1]])

    def test_a_fraction_has_nothing_in_common(self):
        self.assertEqual(slopes(1, 0, [6], [[4, 2]]), [3, 2, 3, 2])
        self.assertEqual(slopes(2, 0, [10, 0], [[100, 0, -7]]), [1, 10, 1, 10])

    def test_conditions_that_just_touch(self):
        self.assertEqual(all_slopes(1, [1], [[1, 3], [-1, -3]]), [[1, 1, 1, 1], [0, 1, 0, 1]])
        self.assertEqual(all_slopes(1, [-2], [[1, 3], [-1, -3]]), [[0, 1, 0, 1], [2, 1, 2, 1]])


class Differing(unittest.TestCase):
    def test_conditions_that_stand_twice(self):
        self.assertEqual(all_slopes(1, [1], [[1, 1], [1, 1]]), [[0, 1, 1, 1]] * 2)
        self.assertEqual(all_slopes(2, [2, 1], [[1, 0, 1], [1, 0, 1], [0, 1, 1]]),
                         [[0, 1, 2, 1], [0, 1, 2, 1], [1, 1, 1, 1]])
        conditions = [[1, 0, 0, 1], [0, 2, 0, 1], [0, 0, 1, 1], [0, 2, 0, 1]]
        self.assertEqual(all_slopes(3, [1, 1, 1], conditions),
                         [[1, 1, 1, 1], [0, 1, 1, 2], [1, 1, 1, 1], [0, 1, 1, 2]])

    def test_one_number(self):
        self.assertEqual(all_slopes(1, [1], [[2, 2], [3, 3], [1, 2]]), [[0, 1, 1, 2], [0, 1, 1, 3], [0, 1, 0, 1]])

    def test_flour_and_hours(self):
        # At the best place, 3 and 1, three conditions hold: 0 and 2 make the direction, 1 and 2 as well.
        conditions = [[1, 1, 4], [1, 3, 6], [1, 0, 3], [-1, 0, 0], [0, -1, 0]]
        self.assertEqual(all_slopes(2, [3, 2], conditions),
                         [[0, 1, 2, 1], [0, 1, 2, 3], [1, 1, 7, 3], [0, 1, 0, 1], [0, 1, 0, 1]])

    def test_four_ways_of_two_numbers(self):
        conditions = [[2, 1, 3], [1, 0, 1], [0, 1, 1], [1, 2, 3]]
        self.assertEqual(all_slopes(2, [1, 1], conditions), [[0, 1, 1, 2], [0, 1, 1, 1], [0, 1, 1, 1], [0, 1, 1, 2]])

    def test_a_way_of_fewer_conditions_counts_too(self):
        conditions = [[1, 0, 0, 1], [0, 1, 0, 1], [0, 0, 1, 1], [0, 1, 1, 2]]
        self.assertEqual(all_slopes(3, [1, 1, 1], conditions),
                         [[1, 1, 1, 1], [0, 1, 1, 1], [0, 1, 1, 1], [0, 1, 1, 1]])

    def test_three_numbers_and_none_is_zero(self):
        conditions = [[1, 0, 0, 1], [0, 1, 0, 1], [0, 0, 1, 1], [0, 1, 1, 2]]
        self.assertEqual(slopes(3, 2, [1, 1, 2], conditions), [1, 1, 2, 1])

    def test_fractions_are_told_by_their_worth(self):
        # Of 2/3 and 3/5 the one with the lesser numbers is the greater one.
        conditions = [[0, 1, 0], [3, 1, 0], [5, 2, 0]]
        self.assertEqual(all_slopes(2, [1, 1], conditions), [[3, 5, 2, 3], [0, 1, 1, 3], [0, 1, 1, 5]])


class NotAmongThem(unittest.TestCase):
    def test_a_condition_of_all_zeros(self):
        self.assertEqual(all_slopes(1, [1], [[0, 0], [1, 2]]), [[0, 1, 0, 1], [1, 1, 1, 1]])
        self.assertEqual(all_slopes(2, [1, 1], [[1, 1, 2], [0, 0, 0]]), [[1, 1, 1, 1], [0, 1, 0, 1]])
        self.assertEqual(all_slopes(3, [1, 0, 0], [[0, 0, 0, 7], [1, 0, 0, 2]]), [[0, 1, 0, 1], [1, 1, 1, 1]])

    def test_a_direction_of_all_zeros(self):
        for n in (1, 2, 3):
            conditions = [[1] * n + [3], [-1] * n + [-3], [0] * n + [0], [0] * n + [4], [1] * n + [3]]
            self.assertEqual(all_slopes(n, [0] * n, conditions), [[0, 1, 0, 1]] * 5)

    def test_a_condition_away_from_the_best_place(self):
        box = [[1, 0, 3], [-1, 0, 0], [0, 1, 2], [0, -1, 0]]
        self.assertEqual(all_slopes(2, [1, 1], box), [[1, 1, 1, 1], [0, 1, 0, 1], [1, 1, 1, 1], [0, 1, 0, 1]])


class WorthMoreThanTheMost(unittest.TestCase):
    def test_a_condition_of_such_ways_alone(self):
        self.assertEqual(all_slopes(1, [1], [[1, 2], [1, 1]]), [[0, 1, 0, 1], [1, 1, 1, 1]])
        self.assertEqual(all_slopes(2, [1, 1], [[1, 1, 9], [1, 0, 2], [0, 1, 3]]),
                         [[0, 1, 0, 1], [1, 1, 1, 1], [1, 1, 1, 1]])

    def test_a_lesser_part_there(self):
        # Conditions 0 and 1 are worth 8 with parts 1 and 2, conditions 1 and 2 with parts 1 and 1 are worth 9.
        self.assertEqual(all_slopes(2, [1, 2], [[1, 0, 2], [0, 1, 3], [1, 1, 6]]),
                         [[1, 1, 1, 1], [2, 1, 2, 1], [0, 1, 0, 1]])

    def test_a_greater_part_there(self):
        self.assertEqual(all_slopes(2, [1, 2], [[1, 0, 2], [0, 1, 3], [1, 1, 4]]),
                         [[0, 1, 0, 1], [1, 1, 1, 1], [1, 1, 1, 1]])

    def test_as_much_worth(self):
        self.assertEqual(all_slopes(2, [1, 2], [[1, 0, 2], [0, 1, 3], [1, 1, 5]]),
                         [[0, 1, 1, 1], [1, 1, 2, 1], [0, 1, 1, 1]])


class NoSuchCondition(unittest.TestCase):
    def test_as_many_as_there_are(self):
        for n in (1, 2, 3):
            for count in range(1, 9):
                conditions = [[1] * n + [5]] * count
                self.assertEqual(len(slopes(n, count - 1, [1] * n, conditions)), 4)
                self.assertEqual(slopes(n, count, [1] * n, conditions), [-4])
                self.assertEqual(slopes(n, count + 1, [1] * n, conditions), [-4])
                self.assertEqual(slopes(n, 4294967295, [1] * n, conditions), [-4])

    def test_no_condition_at_all(self):
        for n in (0, 1, 2, 3, 4):
            self.assertEqual(slopes(n, 0, [0] * n, []), [-4])
            self.assertEqual(slopes(n, 0, [1] * n, []), [-4])
            self.assertEqual(slopes(n, 4294967295, [1] * n, []), [-4])

    def test_ahead_of_all_else(self):
        for n in (0, 1, 4, 4294967295):
            self.assertEqual(slopes(n, 9, [101], [[101]] * 9), [-4])
            self.assertEqual(slopes(n, 10, [], [[]] * 10), [-4])
        self.assertEqual(slopes(1, 9, [1], [[1, 1]] * 9), [-4])
        self.assertEqual(slopes(1, 1, [1], [[1]]), [-4])
        self.assertEqual(slopes(1, 1, [1], [[0, -1]]), [-4])
        self.assertEqual(slopes(1, 1, [1], [[-1, 0]]), [-4])

    def test_a_condition_behind_the_eighth_is_there(self):
        self.assertEqual(slopes(0, 8, [], [[]] * 9), [-3])
        self.assertEqual(slopes(1, 8, [1], [[1, 1]] * 9), [-2])
        self.assertEqual(slopes(1, 9, [101], [[1]] * 10), [-2])

    def test_the_condition_itself_is_wrong(self):
        self.assertEqual(slopes(1, 1, [1], [[1, 1], [101, 1]]), [-1])


class Refused(alike.Refusals, unittest.TestCase):
    def ask(self, n, direction, conditions):
        return slopes(n, 0, direction, conditions)


class HandedIn(alike.HandedIn, unittest.TestCase):
    def ask(self, n, direction, conditions):
        return slopes(n, max(len(conditions) - 1, 0), direction, conditions)


class AgainstTheSecondWay(unittest.TestCase):
    def kind(self, answer):
        if len(answer) == 1:
            return answer[0]
        if answer[:2] == answer[2:]:
            return "the same" if answer[0] > 0 else "all 0"
        return "differing" if answer[0] > 0 else "some 0"

    def check(self, asked):
        kinds = {}
        for n, direction, conditions in asked:
            for k in range(len(conditions)):
                answer = slopes(n, k, direction, conditions)
                self.assertEqual(answer, oracle.slopes(n, k, direction, conditions), (n, k, direction, conditions))
                kinds[self.kind(answer)] = True
        return sorted(str(kind) for kind in kinds)

    def test_small_numbers(self):
        self.assertEqual(self.check(samples.questions(31, 600, 8, 2, 3)),
                         ["-6", "-7", "all 0", "differing", "some 0", "the same"])

    def test_boxes(self):
        self.assertEqual(self.check(samples.boxed_questions(32, 300, 3, 6)),
                         ["-6", "all 0", "differing", "some 0", "the same"])

    def test_all_that_is_allowed(self):
        self.assertEqual(self.check(samples.boxed_questions(33, 100, 100, 10000)),
                         ["-6", "all 0", "some 0", "the same"])


class ABoundMoved(unittest.TestCase):
    """A bound a little higher is worth the least part, a little lower the greatest one."""

    def check(self, asked):
        lowered = 0
        for n, direction, conditions in asked:
            for k in range(len(conditions)):
                answer = slopes(n, k, direction, conditions)
                if len(answer) == 1:
                    continue
                self.assertEqual(answer[:2], oracle.slope_of_bound(n, k, direction, conditions, 1))
                lower = oracle.slope_of_bound(n, k, direction, conditions, -1)
                # A bound that can't be lower, as no place would be left then, tells nothing of the greatest part.
                if lower is not None:
                    self.assertEqual(answer[2:], lower)
                    lowered += answer[:2] != answer[2:]
        return lowered

    def test_small_numbers(self):
        self.assertGreater(self.check(samples.questions(41, 400, 8, 2, 3)), 20)

    def test_boxes(self):
        self.assertGreater(self.check(samples.boxed_questions(42, 200, 3, 6)), 10)

    def test_all_that_is_allowed(self):
        self.check(samples.boxed_questions(43, 60, 100, 10000))
