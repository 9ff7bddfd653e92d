"""Points 3, 7, 9, 10, 11, 16 and 17: whole numbers and fractions."""

import unittest
from fractions import Fraction

from alikeplay.errors import BadValue
from alikeplay.whole import (
    cut, floor_root, fraction, fraction_less, fraction_sum, is_between, is_fraction, is_whole, quotient, rest, wrapped,
)
from helpers import NO_INTEGERS, Cases, check_arguments, check_pure

HUGE = 10 ** 40 + 7
NUMBERS = (*range(-13, 14), 2 ** 31 - 1, 2 ** 31, -2 ** 31, 2 ** 64, 2 ** 64 + 1, -2 ** 64 - 1, HUGE, -HUGE, HUGE ** 9)
NO_FRACTIONS = ((1, 0), (0, 2), (2, 4), (1, -2), (-2, -1), (True, 1), (1, True), (0, True), (1.0, 1), (1, 2, 3), (1,),
                (), [1, 2], "12", None, 1, True, 0.5, ("1", "2"), ((1, 2), 1), (6, 3), (-6, 3), (0, 0), {1: 2})


class KindTests(unittest.TestCase):
    def test_is_whole(self):
        for n in NUMBERS:
            self.assertIs(is_whole(n), True)
        for value in NO_INTEGERS:
            self.assertIs(is_whole(value), False)

    def test_is_between(self):
        self.assertEqual([is_between(n, -2, 3) for n in range(-4, 6)], [False] * 2 + [True] * 6 + [False] * 2)
        self.assertIs(is_between(5, 5, 5), True)
        self.assertIs(is_between(HUGE, -HUGE, HUGE), True)
        self.assertIs(is_between(HUGE + 1, -HUGE, HUGE), False)
        self.assertIs(is_between(2, 3, 1), False)
        for value in NO_INTEGERS:
            self.assertIs(is_between(value, -5, 5), False)


class DivisionTests(unittest.TestCase):
    def test_document(self):
        found = (floor_root(99), quotient(-7, 2), rest(-7, 2), quotient(7, -2), rest(7, -2), cut(-7, 2))
        self.assertEqual(found, (9, -4, 1, -4, -1, -3))

    def test_quotient_is_the_greatest(self):
        for n in NUMBERS:
            for d in NUMBERS:
                if d != 0:
                    found = quotient(n, d)
                    self.assertLessEqual(Fraction(found), Fraction(n, d))
                    self.assertGreater(Fraction(found + 1), Fraction(n, d))

    def test_rest(self):
        for n in NUMBERS:
            for d in NUMBERS:
                if d != 0:
                    found = rest(n, d)
                    self.assertEqual(found, n - d * quotient(n, d))
                    self.assertTrue(0 <= found < d or d < found <= 0)

    def test_cut_goes_towards_zero(self):
        for n in NUMBERS:
            for d in NUMBERS:
                if d != 0:
                    self.assertEqual(cut(n, d), int(Fraction(n, d)))

    def test_multiples(self):
        for d in (1, -1, 7, -7, 2 ** 70, -HUGE):
            for many in (-3, -1, 0, 1, 5):
                self.assertEqual((quotient(many * d, d), rest(many * d, d), cut(many * d, d)), (many, 0, many))

    def test_signs(self):
        self.assertEqual([cut(7, 2), cut(-7, 2), cut(7, -2), cut(-7, -2)], [3, -3, -3, 3])
        self.assertEqual([quotient(7, 2), quotient(-7, -2), rest(7, 2), rest(-7, -2)], [3, 3, 1, -1])
        self.assertEqual([cut(1, -2), cut(-1, 2), cut(0, -5), quotient(-1, 5), rest(-1, 5)], [0, 0, 0, -1, 4])

    def test_errors(self):
        for function in (quotient, rest, cut, fraction):
            check_arguments(self, function, (7, 2), (("n", NO_INTEGERS), ("d", (0, *NO_INTEGERS))))


class RootTests(unittest.TestCase):
    def test_squares_and_neighbours(self):
        for root in (*range(1, 40), 46341, 2 ** 32, 94906267, 2 ** 53 + 1, HUGE, HUGE ** 5):
            square = root * root
            self.assertEqual([floor_root(square - 1), floor_root(square), floor_root(square + 1)],
                             [root - 1, root, root])

    def test_all_small(self):
        for n in range(500):
            root = floor_root(n)
            self.assertTrue(root * root <= n < (root + 1) * (root + 1))

    def test_errors(self):
        check_arguments(self, floor_root, (0,), (("n", (-1, -4, -HUGE, *NO_INTEGERS)),))


class WrappedTests(unittest.TestCase):
    def test_bounds(self):
        self.assertEqual(wrapped(2147483648), -2147483648)
        self.assertEqual(wrapped(2147483647), 2147483647)
        self.assertEqual(wrapped(-2147483648), -2147483648)
        self.assertEqual(wrapped(-2147483649), 2147483647)
        self.assertEqual([wrapped(n) for n in (0, 1, -1, 4294967295, 4294967296, -4294967296)], [0, 1, -1, -1, 0, 0])

    def test_differs_by_a_multiple(self):
        for n in NUMBERS:
            self.assertEqual((wrapped(n) - n) % 4294967296, 0)
            self.assertTrue(-2147483648 <= wrapped(n) <= 2147483647)

    def test_errors(self):
        check_arguments(self, wrapped, (0,), (("n", NO_INTEGERS),))


class FractionTests(unittest.TestCase):
    def test_is_fraction(self):
        for value in ((0, 1), (1, 1), (-3, 2), (3, 1), (HUGE, HUGE + 1), (-1, HUGE)):
            self.assertIs(is_fraction(value), True)
        for value in NO_FRACTIONS:
            self.assertIs(is_fraction(value), False)

    def test_fraction(self):
        self.assertEqual(fraction(6, -4), (-3, 2))
        self.assertEqual([fraction(0, -7), fraction(-5, -5), fraction(4, 6), fraction(-4, 2)],
                         [(0, 1), (1, 1), (2, 3), (-2, 1)])
        for n in NUMBERS:
            for d in NUMBERS:
                if d != 0:
                    found = Fraction(n, d)
                    self.assertEqual(fraction(n, d), (found.numerator, found.denominator))
                    self.assertIs(is_fraction(fraction(n, d)), True)

    def test_sum_and_order(self):
        cases = Cases(1)
        parts = [fraction(cases.whole(-9, 9), cases.whole(1, 9)) for _ in range(40)] + [(HUGE, 3), (-HUGE, 7)]
        for a in parts:
            for b in parts:
                found = Fraction(*a) + Fraction(*b)
                self.assertEqual(check_pure(self, fraction_sum, a, b), (found.numerator, found.denominator))
                self.assertIs(fraction_less(a, b), Fraction(*a) < Fraction(*b))

    def test_sum_is_in_lowest_terms(self):
        self.assertEqual(fraction_sum((1, 2), (1, 2)), (1, 1))
        self.assertEqual(fraction_sum((1, 6), (-1, 6)), (0, 1))

    def test_neighbours_beyond_what_machines_hold(self):
        self.assertIs(fraction_less((HUGE, HUGE + 1), (HUGE + 1, HUGE + 2)), True)
        self.assertIs(fraction_less((HUGE + 1, HUGE + 2), (HUGE, HUGE + 1)), False)
        self.assertIs(fraction_less((1, 2), (1, 2)), False)

    def test_errors(self):
        for function in (fraction_sum, fraction_less):
            check_arguments(self, function, ((1, 2), (-1, 3)), (("a", NO_FRACTIONS), ("b", NO_FRACTIONS)))

    def test_error_is_a_bad_value(self):
        with self.assertRaises(BadValue):
            fraction(1, 0)


if __name__ == "__main__":
    unittest.main()
