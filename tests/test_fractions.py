"""[3] Fractions: lowest terms, sums, differences, products, quotients, and what is no fraction."""

import fractions
import math

from littlewebs.errors import BadNumber
from littlewebs.fractions import is_fraction, less, lowest, over, plus, times
from tests.helpers import Case
from tests.values import ANY, INTEGERS, OTHERS, ROWS, TRUTHS

GREAT = 10 ** 399

SOME = tuple(
    (top, bottom) for bottom in range(1, 7) for top in range(-7, 8) if math.gcd(top, bottom) == 1
) + ((GREAT, 1), (-GREAT, 1), (1, GREAT), (GREAT + 1, GREAT), (2 ** 300, 3 ** 200), (-3 ** 200, 2 ** 300))

NONE = TRUTHS + INTEGERS + OTHERS + (
    [], (), [1], (1,), [None], [True], [1, [2, (3, [])]], ((), []), ((1, 2),), [[1, 2]], (1, 2, 3), [1, 2, 1], (1, 1, 1),
    (2, 4), [2, 4], (-2, 4), (0, 2), (0, -1), (0, 0), (1, 0), (3, 0), (1, -2), (-1, -2), (GREAT, GREAT), (GREAT, 10),
    (True, 2), (True, 1), (False, 1), (1, True), (0, True), ("1", 2), (1, "2"), "12", "1/2", b"12", (1.0, 2), (1, 2.0),
    (None, 1), (1, None), ((1,), 2), (1, [2]), {1: 2, 2: 3}, {1, 2}, fractions.Fraction(1, 2), range(1, 3),
)

OPERATIONS = {
    plus: lambda one, other: one + other, less: lambda one, other: one - other,
    times: lambda one, other: one * other, over: lambda one, other: one / other,
}


def pair(fraction):
    return fraction.numerator, fraction.denominator


class Examples(Case):
    def test_of_the_interface(self):
        self.assert_examples("""
>>> [lowest(6, -4), lowest(0, 5), is_fraction((2, 4)), is_fraction([1, 2]), is_fraction((True, 2)), plus((1, 2), (1, 3)), less((1, 2), (1, 2)), times((2, 3), [3, 4]), over((1, 2), (-2, 1))]
[(-3, 2), (0, 1), False, True, False, (5, 6), (0, 1), (1, 2), (-1, 4)]
>>> over((1, 2), (0, 1))
raises BadNumber('other')
""", "fractions")

    def test_names_and_files(self):
        self.assert_signatures("fractions", {
            "is_fraction": "value", "lowest": "top bottom", "plus": "one other", "less": "one other",
            "times": "one other", "over": "one other",
        })


class IsFraction(Case):
    def test_all_pairs_of_small_integers(self):
        for top in range(-13, 14):
            for bottom in range(-13, 14):
                told = bottom >= 1 and math.gcd(top, bottom) == 1
                self.assertIs(is_fraction((top, bottom)), told)
                self.assertIs(is_fraction([top, bottom]), told)

    def test_great_ones(self):
        for value in SOME:
            self.assertIs(is_fraction(value), True)
        self.assertIs(is_fraction((GREAT, GREAT + 1)), True)
        self.assertIs(is_fraction((GREAT, GREAT)), False)
        self.assertIs(is_fraction((2 * GREAT, 6)), False)

    def test_other_values(self):
        for value in NONE:
            with self.subTest(value=value):
                self.assertIs(is_fraction(value), False)

    def test_by_name(self):
        self.assertIs(is_fraction(value=(1, 2)), True)


class Lowest(Case):
    def test_small_integers(self):
        for top in range(-30, 31):
            for bottom in (*range(-30, 0), *range(1, 31)):
                found = lowest(top, bottom)
                self.assertEqual(found, pair(fractions.Fraction(top, bottom)))
                self.assertIs(type(found), tuple)
                self.assertTrue(is_fraction(found))

    def test_great_integers(self):
        for top in (GREAT, -GREAT, GREAT + 1, 2 ** 1000, -6 ** 300, 0, 1):
            for bottom in (GREAT, -GREAT, GREAT - 1, 6 ** 200, -2 ** 900, 1, -1):
                self.assertEqual(lowest(top, bottom), pair(fractions.Fraction(top, bottom)))

    def test_nothing(self):
        for bottom in (1, -1, 5, -GREAT):
            self.assertEqual(lowest(0, bottom), (0, 1))

    def test_what_is_no_integer(self):
        for value in TRUTHS + OTHERS + ROWS:
            with self.subTest(value=value):
                self.assert_error(BadNumber("top"), lowest, value, 3)
                self.assert_error(BadNumber("bottom"), lowest, 3, value)
                self.assert_error(BadNumber("top"), lowest, value, value)
                self.assert_error(BadNumber("top"), lowest, value, 0)

    def test_no_bottom(self):
        for top in INTEGERS:
            self.assert_error(BadNumber("bottom"), lowest, top, 0)

    def test_by_name(self):
        self.assertEqual(lowest(bottom=-4, top=6), (-3, 2))
        self.assert_error(BadNumber("bottom"), lowest, bottom=0, top=6)


class Operations(Case):
    def test_two_fractions(self):
        for function, plain in OPERATIONS.items():
            for one in SOME:
                for other in SOME:
                    if function is not over or other[0] != 0:
                        found = function(one, other)
                        told = plain(fractions.Fraction(*one), fractions.Fraction(*other))
                        self.assertEqual(found, pair(told))
                        self.assertIs(type(found), tuple)

    def test_back_again(self):
        for one in SOME:
            for other in SOME:
                self.assertEqual(less(plus(one, other), other), one)
                self.assertEqual(plus(less(one, other), other), one)
                if other[0] != 0:
                    self.assertEqual(over(times(one, other), other), one)
                    self.assertEqual(times(over(one, other), other), one)

    def test_lists_for_tuples(self):
        for function in OPERATIONS:
            told = function((3, 4), (-5, 6))
            for one in ((3, 4), [3, 4]):
                for other in ((-5, 6), [-5, 6]):
                    self.assertEqual(function(one, other), told)
                    self.assertIs(type(function(one, other)), tuple)

    def test_what_is_passed_does_not_change(self):
        for function in OPERATIONS:
            one, other = [3, 4], [-5, 6]
            function(one, other)
            self.assertEqual((one, other), ([3, 4], [-5, 6]))

    def test_by_name(self):
        for function in OPERATIONS:
            self.assertEqual(function(other=(1, 3), one=(1, 2)), function((1, 2), (1, 3)))
            self.assert_error(BadNumber("one"), function, other=(1, 3), one=(2, 4))

    def test_no_fraction(self):
        for function in OPERATIONS:
            for value in NONE:
                with self.subTest(function=function.__name__, value=value):
                    self.assert_error(BadNumber("one"), function, value, (1, 2))
                    self.assert_error(BadNumber("other"), function, (1, 2), value)
                    self.assert_error(BadNumber("other"), function, (0, 1), value)
                    self.assert_error(BadNumber("one"), function, value, value)

    def test_divided_by_0(self):
        for one in SOME:
            self.assert_error(BadNumber("other"), over, one, (0, 1))
            self.assert_error(BadNumber("other"), over, one, [0, 1])
        for value in NONE + ANY:
            if not is_fraction(value):
                self.assert_error(BadNumber("one"), over, value, (0, 1))
