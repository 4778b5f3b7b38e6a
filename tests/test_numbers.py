"""[0.3]: what is a whole number; and what is reckoned with such."""

import fractions
import math
import unittest

from fallcounts.errors import NoNumber
from fallcounts.numbers import (
    factorial_of,
    is_whole,
    is_within,
    number_needed,
    power_of,
    share_of,
    ways_out,
)

from helper import Asking, no_numbers, no_orders

OTHERS = [
    thing for thing in no_orders() if isinstance(thing, bool) or not isinstance(thing, int)
]


class TestWhole(unittest.TestCase):
    def test_ints_are_whole(self):
        for number in (0, 1, -1, 20, 10 ** 39, -(10 ** 39)):
            self.assertIs(is_whole(number), True)

    def test_truths_and_other_kinds_are_not(self):
        for thing in [True, False, "1", (1,), [1], {1: 1}, None] + OTHERS:
            with self.subTest(thing=repr(thing)[:60]):
                self.assertIs(is_whole(thing), False)


class TestWithin(unittest.TestCase):
    def test_both_bounds_belong(self):
        found = [number for number in range(-5, 10) if is_within(number, -2, 3)]
        self.assertEqual(found, [-2, -1, 0, 1, 2, 3])

    def test_answers_are_truths(self):
        self.assertIs(is_within(0, 0, 0), True)
        self.assertIs(is_within(1, 0, 0), False)
        self.assertIs(is_within(10 ** 39, 0, 20), False)

    def test_truths_and_other_kinds_are_not_within(self):
        for thing in [True, False] + OTHERS:
            with self.subTest(thing=repr(thing)[:60]):
                self.assertIs(is_within(thing, -1, 2), False)


class TestNeeded(Asking):
    def test_within_is_taken(self):
        for number in range(-2, 4):
            self.assertIsNone(number_needed(number, -2, 3))

    def test_all_else_is_refused(self):
        for thing in no_numbers(-2, 3):
            self.assert_refused(NoNumber, number_needed, thing, -2, 3)

    def test_nothing_is_within_turned_bounds(self):
        for number in (-1, 0, 1):
            self.assert_refused(NoNumber, number_needed, number, 0, -1)


class TestReckoned(Asking):
    def test_powers(self):
        for base in range(-4, 12):
            for exponent in range(12):
                self.assertEqual(power_of(base, exponent), base ** exponent)

    def test_factorials(self):
        for many in range(25):
            self.assertEqual(factorial_of(many), math.factorial(many))

    def test_ways_out(self):
        for many in range(20):
            for taken in range(25):
                self.assertEqual(ways_out(many, taken), math.comb(many, taken))

    def test_shares_are_in_least_terms(self):
        for top in range(-30, 31):
            for bottom in range(1, 31):
                due = fractions.Fraction(top, bottom)
                answer = share_of(top, bottom)
                self.assertEqual(answer, (due.numerator, due.denominator))
                self.assert_numbers(tuple, answer)


if __name__ == "__main__":
    unittest.main()
