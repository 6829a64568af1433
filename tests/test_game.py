import copy
import unittest
from fractions import Fraction

import handed
import oracle
import samples
from witnessedmost.linear import game


class Worth(unittest.TestCase):
    def test_whole(self):
        self.assertEqual(game([[4], [3]]), [4, 1, 1, 1, 0, 1])
        self.assertEqual(game([[0, -1], [-1, 0]])[:2], [-1, 2])
        self.assertEqual(game([[1, -1], [-1, 1]]), [0, 1, 1, 2, 1, 2])
        self.assertEqual(game([[3, 1], [1, 3]]), [2, 1, 1, 2, 1, 2])
        self.assertEqual(game([[-3, -1], [-1, -3]]), [-2, 1, 1, 2, 1, 2])

    def test_not_whole(self):
        self.assertEqual(game([[1, 0], [0, 1]]), [1, 2, 1, 2, 1, 2])
        self.assertEqual(game([[-1, 0], [0, -1]]), [-1, 2, 1, 2, 1, 2])
        self.assertEqual(game([[2, -3], [-3, 4]]), [-1, 12, 7, 12, 5, 12])
        self.assertEqual(game([[-2, 3], [3, -4]]), [1, 12, 7, 12, 5, 12])

    def test_below_zero_is_no_refusal(self):
        self.assertEqual(game([[-1], [-1]]), [-1, 1, 1, 1, 0, 1])
        self.assertEqual(game([[-1, 5], [-2, 5]]), [-1, 1, 1, 1, 0, 1])
        self.assertEqual(game([[-2, 0], [0, -2], [-9, -9]]), [-1, 1, 1, 2, 1, 2, 0, 1])
        self.assertEqual(game([[-2], [-3]]), [-2, 1, 1, 1, 0, 1])

    def test_fractions_have_nothing_in_common(self):
        self.assertEqual(game([[20, 0], [0, 20]]), [10, 1, 1, 2, 1, 2])
        self.assertEqual(game([[6, 0], [0, 2]]), [3, 2, 1, 4, 3, 4])
        self.assertEqual(game([[6, 0, 0], [0, 6, 0], [0, 0, 3]]), [3, 2, 1, 4, 1, 4, 1, 2])

    def test_at_the_limits(self):
        self.assertEqual(game([[100, -100], [-100, 100]]), [0, 1, 1, 2, 1, 2])
        self.assertEqual(game([[100], [100]]), [100, 1, 1, 1, 0, 1])
        self.assertEqual(game([[-100] * 4] * 3), [-100, 1, 1, 1, 0, 1, 0, 1])
        self.assertEqual(game([[100, -99], [-100, 100]]), [100, 399, 200, 399, 199, 399])


class Parts(unittest.TestCase):
    def test_one_row_best_alone(self):
        self.assertEqual(game([[5, 4], [3, 2]]), [4, 1, 1, 1, 0, 1])
        self.assertEqual(game([[3, 2], [5, 4]]), [4, 1, 0, 1, 1, 1])
        self.assertEqual(game([[1, 2], [0, 9], [2, 3]]), [2, 1, 0, 1, 0, 1, 1, 1])
        self.assertEqual(game([[1, 9, 0], [4, 4, 5], [2, 2, 2]]), [4, 1, 0, 1, 1, 1, 0, 1])

    def test_two_of_three_rows(self):
        self.assertEqual(game([[4, 0], [0, 4], [1, 1]]), [2, 1, 1, 2, 1, 2, 0, 1])
        self.assertEqual(game([[4, 0], [1, 1], [0, 4]]), [2, 1, 1, 2, 0, 1, 1, 2])
        self.assertEqual(game([[1, 1], [4, 0], [0, 4]]), [2, 1, 0, 1, 1, 2, 1, 2])
        # The first two columns come to the same, 4 - 3/9 and 3 + 6/9; the third comes to more.
        self.assertEqual(game([[1, 9, 0], [4, 3, 5], [2, 2, 2]]), [11, 3, 1, 9, 8, 9, 0, 1])

    def test_three_rows(self):
        self.assertEqual(game([[0, -1, 1], [1, 0, -1], [-1, 1, 0]]), [0, 1, 1, 3, 1, 3, 1, 3])
        self.assertEqual(game([[0, -2, 1], [2, 0, -3], [-1, 3, 0]]), [0, 1, 1, 2, 1, 6, 1, 3])
        self.assertEqual(game([[1, 0, 0, 5], [0, 1, 0, 5], [0, 0, 1, 5]]), [1, 3, 1, 3, 1, 3, 1, 3])

    def test_one_column(self):
        self.assertEqual(game([[1], [2]]), [2, 1, 0, 1, 1, 1])
        self.assertEqual(game([[2], [1]]), [2, 1, 1, 1, 0, 1])
        self.assertEqual(game([[-5], [-3], [-4]]), [-3, 1, 0, 1, 1, 1, 0, 1])

    def test_three_and_four_columns_of_two_rows(self):
        self.assertEqual(game([[5, 0, 3], [0, 5, 3]]), [5, 2, 1, 2, 1, 2])
        self.assertEqual(game([[5, 0, 2], [0, 5, 2]]), [2, 1, 3, 5, 2, 5])
        self.assertEqual(game([[8, 0, 4, 5], [0, 8, 4, 3]]), [4, 1, 1, 2, 1, 2])


class SeveralBestParts(unittest.TestCase):
    def test_all_zeros(self):
        for columns in (1, 2, 3, 4):
            self.assertEqual(game([[0] * columns] * 2), [0, 1, 1, 1, 0, 1])
            self.assertEqual(game([[0] * columns] * 3), [0, 1, 1, 1, 0, 1, 0, 1])

    def test_rows_that_stand_twice(self):
        self.assertEqual(game([[3, 7], [3, 7]]), [3, 1, 1, 1, 0, 1])
        self.assertEqual(game([[0, 0], [3, 7], [3, 7]]), [3, 1, 0, 1, 1, 1, 0, 1])
        self.assertEqual(game([[1, 0], [1, 0], [0, 1]]), [1, 2, 1, 2, 0, 1, 1, 2])
        self.assertEqual(game([[1, 0], [0, 1], [1, 0]]), [1, 2, 1, 2, 1, 2, 0, 1])
        self.assertEqual(game([[1, 0], [0, 1], [0, 1]]), [1, 2, 1, 2, 1, 2, 0, 1])

    def test_columns_that_stand_twice(self):
        self.assertEqual(game([[1, 1], [2, 2]]), [2, 1, 0, 1, 1, 1])
        self.assertEqual(game([[1, 0, 0, 1], [0, 1, 1, 0]]), [1, 2, 1, 2, 1, 2])
        self.assertEqual(game([[0, 0, 4], [4, 4, 0], [1, 1, 1]]), [2, 1, 1, 2, 1, 2, 0, 1])

    def test_the_first_is_greatest(self):
        # From 2/5 to 3/5 of the first row all parts are worth the 2 that the third column comes to.
        self.assertEqual(game([[5, 0, 2], [0, 5, 2]]), [2, 1, 3, 5, 2, 5])
        # The row (1, 1) is worth as much as half and half of the others.
        self.assertEqual(game([[2, 0], [1, 1], [0, 2]]), [1, 1, 1, 2, 0, 1, 1, 2])
        self.assertEqual(game([[1, 1], [2, 0], [0, 2]]), [1, 1, 1, 1, 0, 1, 0, 1])

    def test_of_these_the_second_is_greatest(self):
        self.assertEqual(game([[0, 0], [2, 2], [2, 2]]), [2, 1, 0, 1, 1, 1, 0, 1])
        # The first row's part is 0; then up to 3/5 of the second row.
        self.assertEqual(game([[0, 0, 0], [5, 0, 2], [0, 5, 2]]), [2, 1, 0, 1, 3, 5, 2, 5])
        # The first row's part may be 1/2 only; what is left goes to either of the others.
        self.assertEqual(game([[0, 4], [4, 0], [4, 0]]), [2, 1, 1, 2, 1, 2, 0, 1])


class Refused(unittest.TestCase):
    def test_how_many_rows(self):
        for columns in range(1, 5):
            for rows in range(6):
                answer = game([[1] * columns] * rows)
                self.assertEqual(answer, [-2] if rows not in (2, 3) else [1, 1] + [1, 1] + [0, 1] * (rows - 1))

    def test_how_many_numbers_the_first_row_has(self):
        for rows in (2, 3):
            for columns in range(7):
                answer = game([[1] * columns] * rows)
                self.assertEqual(answer == [-2], columns not in (1, 2, 3, 4), (rows, columns))
                self.assertEqual(len(answer), 1 if columns in (0, 5, 6) else 2 + 2 * rows)

    def test_a_later_row_that_is_shorter_or_longer(self):
        for columns in range(1, 5):
            for other in range(7):
                row = [1] * columns
                for table in ([row, [1] * other], [row, [1] * other, row], [row, row, [1] * other]):
                    self.assertEqual(game(table) == [-1], other != columns, table)

    def test_how_great_a_number_is(self):
        for rows in (2, 3):
            for columns in range(1, 5):
                for i in range(rows):
                    for k in range(columns):
                        self.check_limit(rows, columns, i, k)

    def check_limit(self, rows, columns, i, k):
        for sign in (1, -1):
            table = [[0] * columns for row in range(rows)]
            table[i][k] = sign * 100
            self.assertEqual(len(game(table)), 2 + 2 * rows)
            table[i][k] = sign * 101
            self.assertEqual(game(table), [-1])
            table[i][k] = sign * 4294967295
            self.assertEqual(game(table), [-1])

    def test_of_several_the_one_told_first(self):
        self.assertEqual(game([]), [-2])
        self.assertEqual(game([[101]]), [-2])
        self.assertEqual(game([[101], [1, 2], [1], [1]]), [-2])
        self.assertEqual(game([[], [1]]), [-2])
        self.assertEqual(game([[], [101]]), [-2])
        self.assertEqual(game([[1] * 5, [101]]), [-2])
        self.assertEqual(game([[101] * 5, [1] * 4]), [-2])
        self.assertEqual(game([[1], [], [101, 1]]), [-1])
        self.assertEqual(game([[101], [1, 2]]), [-1])


class AgainstTheSecondWay(unittest.TestCase):
    def value(self, numbers):
        return Fraction(numbers[0], numbers[1])

    def check(self, tables):
        kinds = {}
        for table in tables:
            answer = game(table)
            self.assertEqual(answer, oracle.game(table), table)
            self.check_parts(table, answer)
            kinds[(answer[0] > 0) - (answer[0] < 0), answer[1] == 1] = True
        return sorted(kinds)

    def check_parts(self, table, answer):
        worth = self.value(answer)
        parts = [self.value(answer[2 + 2 * k:4 + 2 * k]) for k in range(len(table))]
        self.assertEqual(len(answer), 2 + 2 * len(table))
        self.assertGreaterEqual(min(parts), 0)
        self.assertEqual(sum(parts), 1)
        self.assertEqual(oracle.worth_of_parts(table, parts), worth)
        # The other one can see to it that no parts are worth more.
        self.assertEqual(oracle.cost(table), worth, table)

    ALL_KINDS = [(-1, False), (-1, True), (0, True), (1, False), (1, True)]

    def test_small_numbers(self):
        self.assertEqual(self.check(samples.tables(61, 800, 2)), self.ALL_KINDS)

    def test_greater_numbers(self):
        self.assertEqual(self.check(samples.tables(62, 400, 9)), self.ALL_KINDS)

    def test_all_that_is_allowed(self):
        self.assertLessEqual({(-1, False), (1, False)}, set(self.check(samples.tables(63, 400, 100))))

    def test_no_parts_in_steps_are_worth_more_or_go_first(self):
        step = Fraction(1, 12)
        for table in samples.tables(64, 160, 3):
            answer = game(table)
            best = [self.value(answer[2 * k:2 * k + 2]) for k in range(len(table) + 1)]
            for first in range(13):
                for second in range(13 - first) if len(table) == 3 else (12 - first,):
                    parts = [first * step, second * step, (12 - first - second) * step][:len(table)]
                    self.assertLessEqual([oracle.worth_of_parts(table, parts)] + parts, best)


class BothSides(unittest.TestCase):
    def test_worth_as_much_to_the_one_as_it_costs_the_other(self):
        for table in samples.tables(65, 400, 5):
            if len(table[0]) in (2, 3):
                turned = [[-number for number in column] for column in zip(*table)]
                worth = game(table)[:2]
                self.assertEqual(game(turned)[:2], [-worth[0], worth[1]], table)


class HandedIn(unittest.TestCase):
    REFUSED = ([], [[1]], [[1]] * 4, [[], []], [[1] * 5] * 2, [[1], [1, 2]], [[1, 2], [1]], [[1], [101]])

    def test_stays_as_it_was(self):
        for table in list(samples.tables(66, 120, 4)) + list(self.REFUSED):
            before = copy.deepcopy(table)
            answer = game(table)
            self.assertEqual(table, before)
            self.assertEqual(game(handed.kept_rows(table)), answer)

    def test_what_is_refused_is_answered_by_one_number(self):
        for table in self.REFUSED:
            self.assertIn(game(table), ([-1], [-2]))

    def test_nothing_is_kept(self):
        first = game([[1, 0], [0, 1]])
        first.append(7)
        game([[5], [6], [7]])
        self.assertEqual(game([[1, 0], [0, 1]]), [1, 2, 1, 2, 1, 2])

    def test_only_whole_numbers_are_answered(self):
        for table in list(samples.tables(67, 120, 4)) + list(self.REFUSED):
            answer = game(table)
            self.assertIs(type(answer), list)
            self.assertTrue(all(type(number) is int for number in answer))
