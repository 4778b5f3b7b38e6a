"""[3.1] to [3.3], [0.4]: what is refused where orders are listed and numbered."""

import math
import unittest

from fallcounts.errors import NoNumber, NoOrder, NoRow
from fallcounts.listed import (
    begun_many,
    next_numbers,
    next_order,
    number_of,
    order_at,
    orders_all,
)

from helper import (
    Asking,
    all_orders,
    drawn_orders,
    falling,
    nested,
    no_numbers,
    no_orders,
    no_whole,
    rising,
    things_no_tuples,
)

OF_AN_ORDER = (number_of, next_order)
OF_A_BEGINNING = (begun_many, next_numbers)


def no_beginnings(n):
    """Things of whatever kind that are no beginnings for n."""
    found = things_no_tuples() + [[], [0], list(range(n)), {0: 0}]
    for wrong in (-1, n, n + 1, 10 ** 39, -(10 ** 39), True, False, None, "0", "", [], [0], {}, (), (0,), {0: 0}):
        found.append((wrong,))
        if n > 1:
            found += [(0, wrong), (wrong, 1), rising(n - 1) + (wrong,)]
    found += [(0, 0), rising(n) + (0,), rising(n) + (n,), rising(n + 1), rising(13), rising(21)]
    found += [rising(n) * 2, falling(n + 1), (nested(0, 7),), ((0, 1),), (rising(n),), rising(1000)]
    if n > 1:
        found += [(1, 1), rising(n - 1) + (n - 2,), (0,) * n, (n - 1, n - 1)]
    return found


class TestNumbers(Asking):
    def test_no_n(self):
        for thing in no_numbers(1, 12):
            self.assert_refused(NoNumber, orders_all, thing, 0)
            self.assert_refused(NoNumber, order_at, thing, 0, 0)
            self.assert_refused(NoNumber, begun_many, thing, 0, ())
            self.assert_refused(NoNumber, next_numbers, thing, 0, ())

    def test_no_k(self):
        for thing in no_numbers(0, 12):
            for n in (1, 12):
                self.assert_refused(NoNumber, orders_all, n, thing)
                self.assert_refused(NoNumber, order_at, n, thing, 0)
                self.assert_refused(NoNumber, begun_many, n, thing, ())
                self.assert_refused(NoNumber, next_numbers, n, thing, ())

    def test_no_number_of_an_order(self):
        for n, k, many in ((1, 0, 1), (3, 1, 4), (5, 2, 66), (12, 5, 162512286), (12, 11, 1)):
            for thing in no_numbers(0, many - 1):
                self.assert_refused(NoNumber, order_at, n, k, thing)
            order_at(n, k, many - 1)

    def test_no_number_where_there_is_none_at_all(self):
        for n in range(1, 13):
            for k in range(n, 13):
                for number in (0, 1, -1, math.factorial(n) - 1):
                    self.assert_refused(NoNumber, order_at, n, k, number)

    def test_bounds_are_taken(self):
        self.assertEqual(orders_all(1, 12), [])
        self.assertEqual(orders_all(12, 12), [])
        for ask in OF_A_BEGINNING:
            for n, k in ((1, 0), (1, 12), (12, 0), (12, 12)):
                ask(n, k, ())


class TestOrders(Asking):
    def test_no_order(self):
        for ask in OF_AN_ORDER:
            for thing in no_orders():
                self.assert_refused(NoOrder, ask, thing)

    def test_too_many_numbers(self):
        for ask in OF_AN_ORDER:
            for n in range(13, 21):
                for order in [rising(n), falling(n)] + drawn_orders(n, 3):
                    self.assert_too_great(n, 12, ask, order)

    def test_too_great_comes_behind_no_order(self):
        for ask in OF_AN_ORDER:
            for n in (13, 16, 20):
                for wrong in (-1, n, n - 2, True, False, None, [0]):
                    self.assert_refused(NoOrder, ask, rising(n)[:-1] + (wrong,))
                self.assert_refused(NoOrder, ask, list(rising(n)))
            self.assert_refused(NoOrder, ask, rising(21))


class TestBeginnings(Asking):
    def test_no_beginning(self):
        for ask in OF_A_BEGINNING:
            for n in (1, 2, 3, 6, 12):
                for thing in no_beginnings(n):
                    for k in (0, 12):
                        self.assert_refused(NoRow, ask, n, k, thing)

    def test_no_number_comes_ahead_of_no_beginning(self):
        for ask in OF_A_BEGINNING:
            for thing in no_beginnings(3):
                self.assert_refused(NoNumber, ask, 0, 0, thing)
                self.assert_refused(NoNumber, ask, 13, 0, thing)
                self.assert_refused(NoNumber, ask, True, 0, thing)
                self.assert_refused(NoNumber, ask, 3, 13, thing)
                self.assert_refused(NoNumber, ask, 3, -1, thing)
                self.assert_refused(NoNumber, ask, 3, False, thing)
                self.assert_refused(NoNumber, ask, None, None, thing)

    def test_beginnings_for_one_n_alone(self):
        for ask in OF_A_BEGINNING:
            for order in all_orders(4):
                ask(4, 0, order)
                ask(12, 0, order)
                for n in (1, 2, 3):
                    self.assert_refused(NoRow, ask, n, 0, order)


class TestTooGreatLast(Asking):
    def test_no_number_comes_ahead_of_too_great(self):
        for thing in no_whole() + [13, -1]:
            self.assert_refused(NoNumber, orders_all, 12, thing)
            self.assert_refused(NoNumber, orders_all, thing, 5)

    def test_a_refusal_changes_no_later_answer(self):
        before = [orders_all(4, k) for k in range(5)]
        for thing in no_orders():
            with self.assertRaises(NoOrder):
                next_order(thing)
        with self.assertRaises(ValueError):
            orders_all(12, 6)
        with self.assertRaises(ValueError):
            begun_many(4, 1, (0, 0))
        self.assertEqual([orders_all(4, k) for k in range(5)], before)


if __name__ == "__main__":
    unittest.main()
