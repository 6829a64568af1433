"""What the document promises over the whole program: the calls agree, and each is as if called for the first time."""
import contextlib
import copy
import importlib
import inspect
import io
import unittest
from fractions import Fraction

import oracle
import samples
import witnessedmost
from witnessedmost import linear

ARGUMENTS = {
    "most": ["n", "direction", "conditions"],
    "place": ["n", "direction", "conditions"],
    "slopes": ["n", "condition", "direction", "conditions"],
    "needed": ["n", "direction", "conditions"],
    "within": ["n", "conditions"],
    "game": ["table"],
}


def fractions(numbers):
    return [Fraction(numbers[k], numbers[k + 1]) for k in range(0, len(numbers), 2)]


def prices_of(numbers):
    """Parts of conditions, as they are told, as a dict."""
    return {numbers[1 + 3 * k]: Fraction(*numbers[2 + 3 * k:4 + 3 * k]) for k in range(numbers[0])}


def all_calls():
    """One of each call after the other, with answers and refusals of every kind."""
    for n, direction, conditions in samples.questions(71, 150, 9, 3, 5):
        yield linear.most, (n, direction, conditions)
        yield linear.place, (n, direction, conditions)
        yield linear.slopes, (n, len(conditions) // 2, direction, conditions)
        yield linear.needed, (n, direction, conditions)
        yield linear.within, (n, conditions)
        yield linear.game, ([row[:n] for row in conditions],)


class Interface(unittest.TestCase):
    def test_names_and_arguments(self):
        for name, arguments in ARGUMENTS.items():
            parameters = inspect.signature(getattr(linear, name)).parameters
            self.assertEqual(list(parameters), arguments)
            self.assertTrue(all(parameter.default is parameter.empty for parameter in parameters.values()))

    def test_where_it_lies(self):
        self.assertIs(importlib.import_module("witnessedmost.linear"), linear)
        self.assertIs(witnessedmost.linear, linear)
        for name in ARGUMENTS:
            self.assertEqual(getattr(linear, name).__module__, "witnessedmost.linear")


class AsIfForTheFirstTime(unittest.TestCase):
    def test_each_call_answers_the_same_in_whatever_order(self):
        calls = list(all_calls())
        before = copy.deepcopy([given for call, given in calls])
        answers = [call(*given) for call, given in calls]
        kept = copy.deepcopy(answers)
        again = [call(*given) for call, given in reversed(calls)]
        self.assertEqual(list(reversed(again)), answers)
        self.assertEqual(answers, kept)
        self.assertEqual([given for call, given in calls], before)

    def test_an_answer_is_a_list_of_its_own(self):
        for call, given in all_calls():
            inside = [part for part in given if isinstance(part, list)]
            first = call(*given)
            second = call(*given)
            self.assertIsNot(first, second)
            self.assertFalse(any(first is part for part in inside))

    def test_nothing_is_kept_at_the_top(self):
        before = {name: value for name, value in vars(linear).items() if name != "__builtins__"}
        copied = {name: copy.deepcopy(value) for name, value in before.items() if not name.startswith("__")}
        for call, given in all_calls():
            call(*given)
        after = {name: value for name, value in vars(linear).items() if name != "__builtins__"}
        self.assertEqual(after, before)
        self.assertEqual({name: after[name] for name in copied}, copied)

    def test_nothing_is_printed(self):
        out = io.StringIO()
        with contextlib.redirect_stdout(out), contextlib.redirect_stderr(out):
            for call, given in all_calls():
                call(*given)
        self.assertEqual(out.getvalue(), "")


class TheCallsAgree(unittest.TestCase):
    def asked(self):
        yield from samples.questions(72, 500, 8, 2, 4)
        yield from samples.boxed_questions(73, 250, 3, 6)

    def test_no_place(self):
        for n, direction, conditions in self.asked():
            answer = linear.within(n, conditions)
            most = linear.most(n, direction, conditions)
            others = [linear.place(n, direction, conditions), linear.needed(n, direction, conditions)]
            if conditions:
                others.append(linear.slopes(n, 0, direction, conditions))
            self.assertEqual(answer[0] == 0, most[0] == 0)
            if answer[0] == 0:
                self.assertEqual(answer, most)
            for other in others:
                self.assertEqual(other == [-6], most[0] == 0)
                self.assertEqual(other == [-7], most == [1])

    def test_within_is_the_best_place_of_no_direction(self):
        for n, direction, conditions in self.asked():
            answer = linear.within(n, conditions)
            best = linear.place(n, [0] * n, conditions)
            if answer[0] == 2:
                self.assertIn(best[0], (1, 2))
                self.assertEqual(best[1:], answer[1:])
            else:
                self.assertEqual(best, [0] if answer[0] == 1 else [-6])

    def test_the_best_place_has_the_most(self):
        for n, direction, conditions in self.asked():
            most = linear.most(n, direction, conditions)
            best = linear.place(n, direction, conditions)
            if best[0] in (1, 2):
                numbers = fractions(best[1:])
                self.assertEqual(oracle.product(direction, numbers), Fraction(most[1], most[2]))
                for k in prices_of(most[3:]):
                    self.assertEqual(oracle.product(conditions[k][:n], numbers), conditions[k][n])

    def test_prices_lie_between_the_slopes_and_needed_are_those_with_a_slope(self):
        for n, direction, conditions in self.asked():
            most = linear.most(n, direction, conditions)
            if most[0] != 2:
                continue
            prices = prices_of(most[3:])
            found = []
            for k in range(len(conditions)):
                least, greatest = fractions(linear.slopes(n, k, direction, conditions))
                self.assertLessEqual(least, prices.get(k, 0))
                self.assertLessEqual(prices.get(k, 0), greatest)
                if least > 0:
                    found.append(k)
            self.assertEqual(linear.needed(n, direction, conditions), [len(found)] + found)

    def test_a_game_is_a_question_of_conditions(self):
        # The numbers are the worth and all parts but the last; numbers to 50 keep differences within the limit.
        for table in samples.tables(74, 300, 50):
            n = len(table)
            conditions = [[1] + [column[-1] - number for number in column[:-1]] + [column[-1]] for column in zip(*table)]
            conditions += [[0] + [-number for number in axis] + [0] for axis in oracle.axes(n - 1)]
            conditions.append([0] + [1] * n)
            answer = linear.game(table)
            self.assertEqual(linear.within(n, conditions), [2] + answer[:2 * n])
            self.assertEqual(linear.most(n, [1] + [0] * (n - 1), conditions)[:3], [2] + answer[:2])
            self.assertEqual(sum(fractions(answer[2:])), 1)
