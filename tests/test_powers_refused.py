"""[5.1] to [5.5], [0.4]: what powers, sums and rows refuse."""

import unittest

from fallcounts.errors import NoNumber, NoOrder, NoRow
from fallcounts.powers import (
    picks,
    power_parts,
    powers_sum,
    row_with,
    sorted_by,
    sum_parts,
    sum_shares,
)

from helper import (
    Asking,
    drawn_orders,
    falling,
    falls_seen,
    nested,
    no_numbers,
    no_orders,
    rising,
    things_no_tuples,
)

MOST = 10 ** 6
OF_A_POWER = (power_parts, sum_parts, powers_sum)
WRONG_NUMBERS = (
    -1, -2, MOST + 1, MOST + 2, 10 ** 39, -(10 ** 39), True, False, None, "1", "", [], [1], {}, {1: 1}, (), (1,),
)


def no_rows():
    """Things of whatever kind that are no rows of numbers."""
    found = things_no_tuples() + [(), [3], [3, 1, 2], {0: 3}, "3 1 2", 3]
    for wrong in WRONG_NUMBERS:
        found += [(wrong,), (0, wrong), (wrong, 0), (0, wrong, 5), (0,) * 11 + (wrong,), (wrong,) + (0,) * 11]
    found += [rising(13), (0,) * 13, (0,) * 14, (0,) * 1000, (nested(0, 7),), ((0, 1),), ((0,), (1,))]
    return found


class TestRefused(Asking):
    def test_no_x_of_picks(self):
        for thing in no_numbers(0, MOST):
            for n in (0, 30):
                self.assert_refused(NoNumber, picks, thing, n)

    def test_no_n_of_picks(self):
        for thing in no_numbers(0, 30):
            for x in (0, MOST):
                self.assert_refused(NoNumber, picks, x, thing)

    def test_no_base(self):
        for ask in OF_A_POWER:
            for thing in no_numbers(0, MOST):
                for n in (1, 20):
                    self.assert_refused(NoNumber, ask, thing, n)

    def test_no_power(self):
        for ask in OF_A_POWER:
            for thing in no_numbers(1, 20):
                for base in (0, MOST):
                    self.assert_refused(NoNumber, ask, base, thing)

    def test_no_n_of_shares(self):
        for thing in no_numbers(1, 12):
            self.assert_refused(NoNumber, sum_shares, thing)

    def test_both_wrong(self):
        for thing in no_numbers(0, MOST):
            self.assert_refused(NoNumber, picks, thing, thing)
            for ask in OF_A_POWER:
                self.assert_refused(NoNumber, ask, thing, thing)

    def test_bounds_are_taken(self):
        for base in (0, MOST):
            picks(base, 0)
            picks(base, 30)
            for ask in OF_A_POWER:
                ask(base, 1)
                ask(base, 20)
        sum_shares(1)
        sum_shares(12)
        sorted_by((0,))
        sorted_by((MOST,) * 12)
        row_with(rising(12), (MOST,) * 12)

    def test_no_row(self):
        for thing in no_rows():
            self.assert_refused(NoRow, sorted_by, thing)
            for order in ((0,), (0, 1), (1, 0), (0, 1, 2), rising(12), rising(20)):
                self.assert_refused(NoRow, row_with, order, thing)

    def test_no_order(self):
        for thing in no_orders():
            for row in ((5,), (0, 1), (0, 1, 2), rising(12)):
                self.assert_refused(NoOrder, row_with, thing, row)

    def test_a_row_of_another_many(self):
        for n in range(1, 13):
            for many in range(1, 13):
                if many != n:
                    self.assert_refused(NoRow, row_with, rising(n), rising(many))

    def test_no_row_of_so_many_as_a_long_order_has(self):
        for n in range(13, 21):
            for many in (1, 12, n):
                self.assert_refused(NoRow, row_with, rising(n), rising(many))
                self.assert_refused(NoRow, row_with, falling(n), rising(many))

    def test_a_number_less_than_the_one_ahead(self):
        for n in (2, 3, 7, 12):
            for place in range(n - 1):
                numbers = list(range(10, 10 + 2 * n, 2))
                numbers[place + 1] = numbers[place] - 1
                for order in (rising(n), falling(n)):
                    self.assert_refused(NoRow, row_with, order, tuple(numbers))

    def test_like_numbers_at_a_fall(self):
        for order in [falling(2), falling(12)] + drawn_orders(7, 20) + drawn_orders(12, 20):
            falls = falls_seen(order)
            for place in range(len(order) - 1):
                # All rise but for two like ones side by side.
                numbers = tuple([at if at <= place else at - 1 for at in range(len(order))])
                if place in falls:
                    self.assert_refused(NoRow, row_with, order, numbers)
                else:
                    self.assertEqual(sorted_by(row_with(order, numbers)), (order, numbers))


class TestFirstLookedAt(Asking):
    """What stands further to the left is looked at first."""

    def test_no_order_ahead_of_no_row(self):
        for order in ((), (1,), (0, 0), [0], [0, 1], None, True, "0", rising(21), (0, True), ([0],)):
            for thing in no_rows():
                self.assert_refused(NoOrder, row_with, order, thing)

    def test_no_order_ahead_of_another_many_and_of_falls(self):
        for thing in no_orders():
            for row in ((2, 1), (1, 1, 0), falling(12)):
                self.assert_refused(NoOrder, row_with, thing, row)

    def test_a_refusal_changes_no_later_answer(self):
        def answers():
            return [picks(9, 4), power_parts(9, 4), sum_parts(9, 4), powers_sum(9, 4), sum_shares(4),
                    sorted_by((2, 1, 2)), row_with((1, 0, 2), (1, 2, 2))]
        before = answers()
        for thing in no_rows():
            with self.assertRaises(NoRow):
                row_with((1, 0, 2), thing)
        for thing in no_numbers(0, MOST):
            with self.assertRaises(NoNumber):
                power_parts(thing, 4)
        self.assertEqual(answers(), before)


if __name__ == "__main__":
    unittest.main()
