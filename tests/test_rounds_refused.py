"""[7.1] to [7.4], [0.4]: what is refused where rounds are told or counted."""

import unittest

from fallcounts.errors import NoNumber, NoOrder
from fallcounts.rounds import (
    both_all,
    both_count,
    drops_of,
    laid,
    lifts_of,
    none_count,
    rounds_count,
    rounds_of,
    taken_up,
)

from helper import Asking, no_numbers, no_orders

OF_AN_ORDER = (rounds_of, lifts_of, drops_of, laid, taken_up)


class TestRefused(Asking):
    def test_no_order(self):
        for ask in OF_AN_ORDER:
            for thing in no_orders():
                self.assert_refused(NoOrder, ask, thing)

    def test_no_n(self):
        for thing in no_numbers(1, 20):
            for other in (0, 20):
                self.assert_refused(NoNumber, rounds_count, thing, other)
                self.assert_refused(NoNumber, none_count, thing, other)
                self.assert_refused(NoNumber, both_count, thing, other, other)

    def test_no_n_of_both_all(self):
        for thing in no_numbers(1, 7):
            for other in (0, 1, 20):
                self.assert_refused(NoNumber, both_all, thing, other, other)

    def test_no_r(self):
        for thing in no_numbers(0, 20):
            for n in (1, 20):
                self.assert_refused(NoNumber, rounds_count, n, thing)
                self.assert_refused(NoNumber, both_count, n, thing, 0)
                self.assert_refused(NoNumber, both_count, n, thing, 20)
            for n in (1, 7):
                self.assert_refused(NoNumber, both_all, n, thing, 0)

    def test_no_k(self):
        for thing in no_numbers(0, 20):
            for n in (1, 20):
                self.assert_refused(NoNumber, none_count, n, thing)
                self.assert_refused(NoNumber, both_count, n, 0, thing)
                self.assert_refused(NoNumber, both_count, n, 20, thing)
            for n in (1, 7):
                self.assert_refused(NoNumber, both_all, n, 1, thing)

    def test_bounds_are_taken(self):
        for n in (1, 20):
            for other in (0, 20):
                rounds_count(n, other)
                none_count(n, other)
                both_count(n, other, 0)
                both_count(n, other, 20)
        for n in (1, 7):
            for r, k in ((0, 0), (0, 20), (20, 0), (20, 20)):
                self.assertEqual(both_all(n, r, k), [])


class TestFirstLookedAt(Asking):
    def test_several_wrong(self):
        for thing in no_numbers(0, 20):
            self.assert_refused(NoNumber, rounds_count, thing, thing)
            self.assert_refused(NoNumber, none_count, thing, thing)
            for ask in (both_count, both_all):
                self.assert_refused(NoNumber, ask, thing, thing, thing)
                self.assert_refused(NoNumber, ask, thing, thing, 0)
                self.assert_refused(NoNumber, ask, thing, 0, thing)
                self.assert_refused(NoNumber, ask, 1, thing, thing)

    def test_too_great_behind_all_else(self):
        for thing in no_numbers(0, 20):
            # Were it not for the wrong one, each would be too great.
            self.assert_refused(NoNumber, both_all, thing, 3, 3)
            self.assert_refused(NoNumber, both_all, 7, thing, 3)
            self.assert_refused(NoNumber, both_all, 7, 3, thing)
        self.assert_refused(NoNumber, both_all, 8, 3, 3)
        self.assert_too_great(both_count(7, 3, 3), 300, both_all, 7, 3, 3)

    def test_a_refusal_changes_no_later_answer(self):
        def answers():
            return [rounds_of((2, 1, 0)), laid((2, 1, 0)), taken_up((2, 1, 0)), both_all(4, 2, 2), none_count(9, 4)]
        before = answers()
        for thing in no_orders():
            for ask in OF_AN_ORDER:
                with self.assertRaises(NoOrder):
                    ask(thing)
        for thing in no_numbers(0, 20):
            with self.assertRaises(NoNumber):
                both_all(4, thing, 2)
        with self.assertRaises(ValueError):
            both_all(7, 3, 3)
        self.assertEqual(answers(), before)


if __name__ == "__main__":
    unittest.main()
