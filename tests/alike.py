"""What several calls are tested for; a test case says how it asks: ask(self, n, direction, conditions)."""
import copy

import handed
import samples

REFUSED = (
    (0, [1], [[1, 1]]), (1, [1], [[1, 1]] * 9), (1, [1], [[1]]), (1, [101], [[1, 1]]), (1, [1], [[0, -1]]),
    (1, [1], [[-1, 0]]),
)


class WrongConditions:
    """Of n and the conditions: -3, -2, -1."""

    def test_n(self):
        for n in (0, 4, 5, 4294967295):
            size = min(n, 5)
            self.assertEqual(self.ask(n, [1] * size, [[1] * size + [5]]), [-3])
        for n in (1, 2, 3):
            self.assertGreaterEqual(self.ask(n, [1] * n, [[1] * n + [5]])[0], 0)

    def test_how_many_conditions(self):
        for n in (1, 2, 3):
            row = [1] * n + [5]
            self.assertGreaterEqual(self.ask(n, [1] * n, [row] * 8)[0], 0)
            self.assertEqual(self.ask(n, [1] * n, [row] * 9), [-2])
            self.assertEqual(self.ask(n, [1] * n, [row] * 10), [-2])

    def test_how_many_numbers_a_condition_has(self):
        for n in (1, 2, 3):
            for count in range(7):
                for conditions in ([[1] * n + [1], [1] * count], [[1] * count, [1] * n + [1]]):
                    answer = self.ask(n, [0] * n, conditions)
                    self.assertEqual(answer == [-1], count != n + 1, (n, conditions))

    def test_how_great_a_condition_is(self):
        for n in (1, 2, 3):
            for k in range(n + 1):
                limit = 100 if k < n else 10000
                for sign in (1, -1):
                    row = [1] * n + [0]
                    row[k] = sign * limit
                    self.assertGreaterEqual(self.ask(n, [0] * n, [row])[0], 0)
                    row[k] = sign * (limit + 1)
                    self.assertEqual(self.ask(n, [0] * n, [row]), [-1])
                    row[k] = sign * 4294967295
                    self.assertEqual(self.ask(n, [0] * n, [[0] * (n + 1), row]), [-1])


class Refusals(WrongConditions):
    """All that slopes and needed refuse alike."""

    def test_how_many_numbers_the_direction_has(self):
        for n in (1, 2, 3):
            for count in range(7):
                answer = self.ask(n, [0] * count, [[1] * n + [5]])
                self.assertEqual(answer == [-4], count != n, (n, count))

    def test_how_great_the_direction_is(self):
        for n in (1, 2, 3):
            for k in range(n):
                for sign in (1, -1):
                    direction = [0] * n
                    direction[k] = sign * 100
                    bound = list(direction) + [5]
                    self.assertGreaterEqual(self.ask(n, direction, [bound])[0], 0)
                    direction[k] = sign * 101
                    self.assertEqual(self.ask(n, direction, [bound]), [-4])
                    direction[k] = sign * 4294967295
                    self.assertEqual(self.ask(n, direction, [bound]), [-4])

    def test_no_place_within(self):
        self.assertEqual(self.ask(1, [1], [[1, 2], [-1, -3]]), [-6])
        self.assertGreaterEqual(self.ask(1, [1], [[1, 2], [-1, -2]])[0], 0)
        self.assertEqual(self.ask(2, [0, 0], [[0, 0, -1]]), [-6])
        self.assertGreaterEqual(self.ask(2, [0, 0], [[0, 0, 0]])[0], 0)
        self.assertEqual(self.ask(2, [1, 1], [[1, 1, 1], [-1, 0, -1], [0, -1, -1]]), [-6])
        conditions = [[1, 1, 1, 2], [-1, 0, 0, -1], [0, -1, 0, -1], [0, 0, -1, -1]]
        self.assertEqual(self.ask(3, [1, 0, 0], conditions), [-6])

    def test_the_most_goes_on_without_end(self):
        self.assertEqual(self.ask(1, [1], [[-1, 0]]), [-7])
        self.assertEqual(self.ask(1, [1], [[0, 0]]), [-7])
        self.assertEqual(self.ask(2, [1, 1], [[1, 0, 5]]), [-7])
        self.assertEqual(self.ask(2, [1, -1], [[1, 0, 5], [0, 1, 5]]), [-7])
        self.assertEqual(self.ask(3, [1, 2, 3], [[1, 2, 4, 5]]), [-7])

    def test_of_several_the_one_told_first(self):
        self.assertEqual(self.ask(0, [], [[]] * 9), [-3])
        self.assertEqual(self.ask(4, [101], [[1, 1]]), [-3])
        self.assertEqual(self.ask(1, [101], [[101, 1]] * 9), [-2])
        self.assertEqual(self.ask(1, [1], [[0, -1]] * 9), [-2])
        self.assertEqual(self.ask(1, [101], [[0, -1], [1, 10001]]), [-1])
        self.assertEqual(self.ask(1, [1], [[0, -1], [1]]), [-1])
        self.assertEqual(self.ask(1, [101], [[0, -1]]), [-4])
        self.assertEqual(self.ask(1, [101], [[-1, 0]]), [-4])
        self.assertEqual(self.ask(2, [0, 1], [[1, 0, 0], [-1, 0, -2]]), [-6])


class HandedIn:
    refused = REFUSED

    def test_stays_as_it_was(self):
        for n, direction, conditions in samples.questions(35, 120, 8, 3, 4):
            before = copy.deepcopy((direction, conditions))
            answer = self.ask(n, direction, conditions)
            self.assertEqual((direction, conditions), before)
            self.assertEqual(self.ask(n, *handed.kept(direction, conditions)), answer)

    def test_stays_as_it_was_where_refused(self):
        for n, direction, conditions in self.refused:
            before = copy.deepcopy((direction, conditions))
            answer = self.ask(n, *handed.kept(direction, conditions))
            self.assertEqual(len(answer), 1)
            self.assertLess(answer[0], 0)
            self.assertEqual(self.ask(n, direction, conditions), answer)
            self.assertEqual((direction, conditions), before)

    def test_nothing_is_kept(self):
        first = self.ask(1, [1], [[2, 3]])
        before = list(first)
        first.append(7)
        self.ask(2, [1, 1], [[1, 1, 1]])
        self.assertEqual(self.ask(1, [1], [[2, 3]]), before)

    def test_only_whole_numbers_are_answered(self):
        for n, direction, conditions in samples.questions(36, 120, 8, 3, 4):
            answer = self.ask(n, direction, conditions)
            self.assertIs(type(answer), list)
            self.assertTrue(all(type(number) is int for number in answer))
