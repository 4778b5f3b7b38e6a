"""[8.1] to [8.4], [0.4]: what is refused where ends are told, and of zigzags."""

import unittest

from fallcounts.ends import (
    ends_all,
    ends_count,
    first_count,
    is_zigzag,
    last_count,
    zigzag_at,
    zigzag_many,
    zigzag_number,
    zigzag_row,
)
from fallcounts.errors import NoNumber, NoOrder, NoRow

from helper import Asking, drawn_orders, falling, falls_seen, no_numbers, no_orders, rising

OF_ONE_END = (first_count, last_count)
OF_BOTH_ENDS = (ends_count, ends_all)


class TestRefused(Asking):
    def test_no_n(self):
        for thing in no_numbers(1, 12):
            for k in (0, 12):
                for ask in OF_ONE_END:
                    self.assert_refused(NoNumber, ask, thing, k, 0)
                for ask in OF_BOTH_ENDS:
                    self.assert_refused(NoNumber, ask, thing, k, 0, 0)

    def test_no_k(self):
        for thing in no_numbers(0, 12):
            for n in (1, 12):
                for ask in OF_ONE_END:
                    self.assert_refused(NoNumber, ask, n, thing, 0)
                for ask in OF_BOTH_ENDS:
                    self.assert_refused(NoNumber, ask, n, thing, 0, 0)

    def test_no_end(self):
        for n in (1, 2, 7, 12):
            for thing in no_numbers(0, n - 1):
                for k in (0, 12):
                    for ask in OF_ONE_END:
                        self.assert_refused(NoNumber, ask, n, k, thing)
                    for ask in OF_BOTH_ENDS:
                        self.assert_refused(NoNumber, ask, n, k, thing, 0)
                        self.assert_refused(NoNumber, ask, n, k, 0, thing)

    def test_bounds_are_taken(self):
        for n in (1, 12):
            for k in (0, 12):
                for a in (0, n - 1):
                    for ask in OF_ONE_END:
                        ask(n, k, a)
                    for b in (0, n - 1):
                        for ask in OF_BOTH_ENDS:
                            ask(n, k, a, b)

    def test_no_n_of_zigzags(self):
        for thing in no_numbers(1, 20):
            self.assert_refused(NoNumber, zigzag_row, thing)
            self.assert_refused(NoNumber, zigzag_many, thing)
            self.assert_refused(NoNumber, zigzag_at, thing, 0)
        for n in (1, 20):
            zigzag_row(n)
            zigzag_many(n)
            zigzag_at(n, 0)

    def test_no_number_of_a_zigzag(self):
        for n in (1, 2, 3, 4, 7, 20):
            many = zigzag_many(n)
            for thing in no_numbers(0, many - 1):
                self.assert_refused(NoNumber, zigzag_at, n, thing)
            zigzag_at(n, many - 1)

    def test_no_order(self):
        for thing in no_orders():
            self.assert_refused(NoOrder, is_zigzag, thing)
            self.assert_refused(NoOrder, zigzag_number, thing)

    def test_an_order_that_is_no_zigzag(self):
        orders = [(1, 0), (0, 1, 2), (1, 0, 2), (2, 1, 0), (1, 0, 3, 2), (3, 0, 2, 1)]
        orders += [order(n) for n in (3, 4, 12, 19, 20) for order in (rising, falling)]
        for n in (7, 12, 20):
            orders += [order for order in drawn_orders(n, 30) if falls_seen(order) != tuple(range(1, n - 1, 2))]
        for order in orders:
            self.assert_refused(NoRow, zigzag_number, order)


class TestFirstLookedAt(Asking):
    """What stands further to the left is looked at first; TooGreat comes behind all else."""

    def test_several_wrong(self):
        for thing in no_numbers(0, 20):
            for ask in OF_ONE_END:
                self.assert_refused(NoNumber, ask, thing, thing, thing)
                self.assert_refused(NoNumber, ask, 5, thing, thing)
            for ask in OF_BOTH_ENDS:
                self.assert_refused(NoNumber, ask, thing, thing, thing, thing)
                self.assert_refused(NoNumber, ask, 5, thing, thing, thing)
                self.assert_refused(NoNumber, ask, 5, 2, thing, thing)
            self.assert_refused(NoNumber, zigzag_at, thing, thing)

    def test_too_great_behind_all_else(self):
        for thing in no_numbers(0, 12):
            # Were it not for the wrong one, each would be too great.
            self.assert_refused(NoNumber, ends_all, thing, 5, 3, 7)
            self.assert_refused(NoNumber, ends_all, 12, thing, 3, 7)
            self.assert_refused(NoNumber, ends_all, 12, 5, thing, 7)
            self.assert_refused(NoNumber, ends_all, 12, 5, 3, thing)
        self.assert_too_great(ends_count(12, 5, 3, 7), 300, ends_all, 12, 5, 3, 7)

    def test_a_refusal_changes_no_later_answer(self):
        def answers():
            return [ends_all(5, 2, 1, 3), first_count(9, 4, 3), zigzag_row(9), zigzag_number((0, 2, 1))]
        before = answers()
        for thing in no_orders():
            with self.assertRaises(NoOrder):
                zigzag_number(thing)
        for thing in no_numbers(0, 4):
            with self.assertRaises(NoNumber):
                ends_all(5, 2, 1, thing)
        with self.assertRaises(NoRow):
            zigzag_number((2, 1, 0))
        self.assertEqual(answers(), before)


if __name__ == "__main__":
    unittest.main()
