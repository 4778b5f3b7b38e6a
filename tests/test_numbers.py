"""[0.3]: what is a whole number."""

import unittest

from fallcounts.numbers import is_whole, is_within

from helper import no_orders

OTHERS = [
    thing for thing in no_orders() if isinstance(thing, bool) or not isinstance(thing, int)
]


class TestWhole(unittest.TestCase):
    def test_ints_are_whole(self):
        for number in (0, 1, -1, 20, 10 ** 39, -(10 ** 39)):
            self.assertIs(is_whole(number), True)

    def test_truths_and_other_kinds_are_not(self):
        for thing in [True, False, "1", (1,), [1], {1: 1}, None] + OTHERS:
            with self.subTest(thing=repr(thing)[:60]):
                self.assertIs(is_whole(thing), False)


class TestWithin(unittest.TestCase):
    def test_both_bounds_belong(self):
        found = [number for number in range(-5, 10) if is_within(number, -2, 3)]
        self.assertEqual(found, [-2, -1, 0, 1, 2, 3])

    def test_answers_are_truths(self):
        self.assertIs(is_within(0, 0, 0), True)
        self.assertIs(is_within(1, 0, 0), False)
        self.assertIs(is_within(10 ** 39, 0, 20), False)

    def test_truths_and_other_kinds_are_not_within(self):
        for thing in [True, False] + OTHERS:
            with self.subTest(thing=repr(thing)[:60]):
                self.assertIs(is_within(thing, -1, 2), False)


if __name__ == "__main__":
    unittest.main()
