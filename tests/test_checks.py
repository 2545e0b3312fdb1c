"""The checks of the interface, and [2]: what an integer is, lists and tuples for one another."""

import inspect
import unittest

from littlewebs import checks
from littlewebs.checks import are_numbers, first_twice, is_integer, is_within
from littlewebs.papers import Denial, Paper
from tests.values import ANY, INTEGERS, OTHERS, ROWS, TRUTHS


class Examples(unittest.TestCase):
    def test_of_the_interface(self):
        told = [
            is_integer(True), is_within(3, None, 3), are_numbers([0, 10]), are_numbers((1, True)),
            first_twice([2, 1, 2, 1]), first_twice([(0, 1), [0, 1]]),
        ]
        self.assertEqual(told, [False, True, True, False, 2, (0, 1)])


class IsInteger(unittest.TestCase):
    def test_integers_of_any_size(self):
        for value in INTEGERS:
            self.assertIs(is_integer(value), True)

    def test_truths_are_none(self):
        for value in TRUTHS:
            self.assertIs(is_integer(value), False)

    def test_other_values_are_none(self):
        for value in OTHERS + ROWS:
            with self.subTest(value=value):
                self.assertIs(is_integer(value), False)


class IsWithin(unittest.TestCase):
    def test_bounds_on_both_sides(self):
        found = [is_within(value, 2, 4) for value in range(7)]
        self.assertEqual(found, [False, False, True, True, True, False, False])

    def test_a_bound_below_alone(self):
        found = [is_within(value, 2, None) for value in (-10 ** 399, 1, 2, 3, 10 ** 399)]
        self.assertEqual(found, [False, False, True, True, True])

    def test_a_bound_above_alone(self):
        found = [is_within(value, None, 2) for value in (-10 ** 399, 1, 2, 3, 10 ** 399)]
        self.assertEqual(found, [True, True, True, False, False])

    def test_no_bound(self):
        for value in INTEGERS:
            self.assertIs(is_within(value, None, None), True)

    def test_a_bound_of_0_is_a_bound(self):
        found = [is_within(-1, 0, None), is_within(0, 0, None), is_within(0, None, 0), is_within(1, None, 0)]
        self.assertEqual(found, [False, True, True, False])

    def test_bounds_below_0(self):
        found = [is_within(value, -3, -1) for value in (-4, -3, -2, -1, 0)]
        self.assertEqual(found, [False, True, True, True, False])

    def test_one_number_and_none_between_the_bounds(self):
        found = [is_within(4, 5, 5), is_within(5, 5, 5), is_within(6, 5, 5), is_within(5, 6, 4)]
        self.assertEqual(found, [False, True, False, False])

    def test_great_bounds(self):
        great = 10 ** 399
        found = [is_within(great - 1, great, None), is_within(great, great, great), is_within(great + 1, None, great)]
        self.assertEqual(found, [False, True, False])

    def test_values_of_other_kinds_are_within_no_bounds(self):
        for value in TRUTHS + OTHERS + ROWS:
            for least, most in ((None, None), (0, None), (None, 1), (0, 1)):
                with self.subTest(value=value, least=least, most=most):
                    self.assertIs(is_within(value, least, most), False)


class AreNumbers(unittest.TestCase):
    def test_lists_and_tuples(self):
        for value in ([0], (0,), [3, -1, 3], (10 ** 399, 0), list(INTEGERS), INTEGERS):
            self.assertIs(are_numbers(value), True)

    def test_empty_ones(self):
        self.assertIs(are_numbers([]), True)
        self.assertIs(are_numbers(()), True)

    def test_one_wrong_among_them_at_any_place(self):
        for wrong in TRUTHS + OTHERS + ROWS:
            for numbers in ([wrong], [wrong, 1], [1, wrong], [1, wrong, 2], (1, 2, wrong)):
                with self.subTest(numbers=numbers):
                    self.assertIs(are_numbers(numbers), False)

    def test_nested_ones(self):
        for value in ([[]], [[1]], ([1],), [1, (2,)], ((1, 2), (3, 4))):
            self.assertIs(are_numbers(value), False)

    def test_values_of_other_kinds(self):
        for value in TRUTHS + INTEGERS + OTHERS:
            with self.subTest(value=value):
                self.assertIs(are_numbers(value), False)


class FirstTwice(unittest.TestCase):
    def test_integers(self):
        self.assertEqual(first_twice([0, 1, 0]), 0)
        self.assertEqual(first_twice([5, 3, 3, 5]), 3)
        self.assertEqual(first_twice([7, 7, 7]), 7)
        self.assertEqual(first_twice([-1, -2, 10 ** 399, -2, 10 ** 399]), -2)

    def test_strings(self):
        self.assertEqual(first_twice(["a", "b", "A", "b", "a"]), "b")
        self.assertEqual(first_twice(["x", "", ""]), "")
        self.assertIsNone(first_twice(["a", "aa", "A", ""]))

    def test_tuples(self):
        self.assertEqual(first_twice([(0, 1), (1, 0), (1, 0), (0, 1)]), (1, 0))
        self.assertEqual(first_twice([("a", 1), (1, "a"), ("a", 1)]), ("a", 1))
        self.assertEqual(first_twice([(), (0,), ()]), ())
        self.assertIsNone(first_twice([(0, 1), (1, 0), (0,), (0, 1, 1), ()]))

    def test_lists_and_tuples_for_one_another(self):
        for values in ([[0, 1], (0, 1)], ([0, 1], [0, 1]), ((0, 1), [0, 1]), [(0, 1), (0, 1)]):
            self.assertEqual(first_twice(values), (0, 1))
            self.assertIsInstance(first_twice(values), tuple)
        self.assertEqual(first_twice((4, 4)), 4)

    def test_nested_ones(self):
        self.assertEqual(first_twice([[0, [1, (2,)]], (0, (1, [3])), (0, (1, [2]))]), (0, (1, (2,))))
        self.assertIsNone(first_twice([(0, (1,)), (0, (2,)), (0, 1), ((0,), 1), (0, (1, ())), (0,)]))

    def test_none_stands_twice(self):
        for values in ([], (), [1], ["a"], [()], [1, 2, 3], ["a", "b"], [1, "1", (1,), ("1",), "(1,)", ((1,),)]):
            self.assertIsNone(first_twice(values))

    def test_kinds_among_one_another(self):
        self.assertEqual(first_twice([1, "1", (1,), "a", (1,), "1", 1]), (1,))
        self.assertEqual(first_twice([1, "1", (1,), "1", (1,)]), "1")

    def test_values_of_other_kinds_fail_nowhere(self):
        for value in OTHERS:
            with self.subTest(value=value):
                self.assertIsNone(first_twice([value, 5, "five", (5, value)]))
                self.assertEqual(first_twice([value, 5, "five", (5, value), 5]), 5)
        papers = [Paper("note", [1]), Denial("note", 1), Paper("note", 1), Paper("note", (1,))]
        self.assertEqual(first_twice(papers), Paper("note", [1]))

    def test_nothing_that_is_passed_changes(self):
        values = [[0, [1]], 3, [0, [1]]]
        first_twice(values)
        self.assertEqual(values, [[0, [1]], 3, [0, [1]]])

    def test_many_and_deep_values(self):
        self.assertIsNone(first_twice(list(range(10000))))
        self.assertEqual(first_twice([*range(10000), 9999]), 9999)
        deep, told = 1, 1
        for _ in range(29):
            deep, told = [deep], (told,)
        self.assertIsNone(first_twice([deep, [deep], deep[0]]))
        self.assertEqual(first_twice([0, deep, (1,), deep]), told)


class Arguments(unittest.TestCase):
    def test_by_name(self):
        self.assertIs(is_integer(value=3), True)
        self.assertIs(is_within(most=3, value=3, least=None), True)
        self.assertIs(is_within(3, least=4, most=None), False)
        self.assertIs(are_numbers(value=[1]), True)
        self.assertEqual(first_twice(values=[1, 1]), 1)

    def test_names_and_files(self):
        told = {
            "is_integer": ["value"], "is_within": ["value", "least", "most"], "are_numbers": ["value"],
            "first_twice": ["values"],
        }
        for name, parameters in told.items():
            function = getattr(checks, name)
            self.assertEqual(list(inspect.signature(function).parameters), parameters)
            self.assertEqual(function.__module__, "littlewebs.checks")

    def test_answers_are_truths(self):
        for value in ANY:
            with self.subTest(value=value):
                self.assertIsInstance(is_integer(value), bool)
                self.assertIsInstance(is_within(value, None, None), bool)
                self.assertIsInstance(are_numbers(value), bool)
