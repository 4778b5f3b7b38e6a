"""[5.1] to [5.5]: powers and their sums, and rows sorted by an order."""

import fractions
import itertools
import math
import unittest

from fallcounts import powers as module
from fallcounts.orders import falls_many, order_good
from fallcounts.powers import (
    picks,
    power_parts,
    powers_sum,
    row_with,
    sorted_by,
    sum_parts,
    sum_shares,
)

from helper import Asking, all_orders, drawn_orders, falling, falls_seen, number_at, rising

MOST = 10 ** 6
BASES = tuple(range(25)) + (99, 1000, MOST - 1, MOST)


def summed(m, n):
    """The sum of the powers of n up to m, number by number."""
    return sum([x ** n for x in range(1, m + 1)])


def sums_told(n, m):
    """The sum up to m by the shares of n."""
    shares = [fractions.Fraction(top, bottom) for top, bottom in sum_shares(n)]
    return sum([share * m ** power for power, share in enumerate(shares)])


def sorted_found(row):
    """What sorted_by is to tell, by taking out the least number again and again."""
    left = list(enumerate(row))
    order, numbers = [], []
    while left:
        best = left[0]
        for pair in left:
            if pair[1] < best[1]:
                best = pair
        left.remove(best)
        order.append(best[0])
        numbers.append(best[1])
    return (tuple(order), tuple(numbers))


class TestInterface(Asking):
    def test_names_and_arguments(self):
        self.assert_arguments(module, {
            "picks": ["x", "n"],
            "power_parts": ["x", "n"],
            "sum_parts": ["m", "n"],
            "powers_sum": ["m", "n"],
            "sum_shares": ["n"],
            "sorted_by": ["row"],
            "row_with": ["order", "thing"],
        })


class TestPicks(Asking):
    def test_ways_gone_through(self):
        for x in range(9):
            for n in range(31):
                due = len(list(itertools.combinations(range(x), n)))
                self.assertEqual(picks(x, n), due)

    def test_each_n(self):
        for x in BASES:
            for n in range(31):
                self.assertEqual(picks(x, n), math.comb(x, n))

    def test_told_ones(self):
        self.assertEqual(picks(0, 0), 1)
        self.assertEqual(picks(0, 1), 0)
        self.assertEqual(picks(0, 30), 0)
        self.assertEqual(picks(5, 2), 10)
        self.assertEqual(picks(29, 30), 0)
        self.assertEqual(picks(30, 30), 1)
        self.assertEqual(picks(MOST, 0), 1)
        self.assertEqual(picks(MOST, 1), MOST)
        self.assertEqual(picks(MOST, 2), MOST * (MOST - 1) // 2)

    def test_kinds(self):
        for x, n in ((0, 0), (0, 30), (5, 2), (MOST, 30)):
            self.assertIs(type(picks(x, n)), int)


class TestPowerParts(Asking):
    def test_each_part(self):
        for x in BASES:
            for n in range(1, 21):
                due = [number_at(n, k) * math.comb(x + k, n) for k in range(n)]
                self.assertEqual(power_parts(x, n), due)

    def test_they_come_to_the_power(self):
        for x in BASES:
            for n in range(1, 21):
                self.assertEqual(sum(power_parts(x, n)), x ** n)

    def test_told_ones(self):
        self.assertEqual(power_parts(0, 1), [0])
        self.assertEqual(power_parts(0, 20), [0] * 20)
        self.assertEqual(power_parts(7, 1), [7])
        self.assertEqual(power_parts(1, 3), [0, 0, 1])
        self.assertEqual(power_parts(2, 3), [0, 4, 4])
        self.assertEqual(power_parts(3, 3), [1, 16, 10])
        self.assertEqual(power_parts(MOST, 1), [MOST])
        # The one part of two reaches beyond the bound of x.
        self.assertEqual(power_parts(MOST, 2), [MOST * (MOST - 1) // 2, (MOST + 1) * MOST // 2])

    def test_kinds(self):
        for x, n in ((0, 1), (3, 3), (MOST, 20)):
            self.assert_numbers(list, power_parts(x, n))


class TestSumParts(Asking):
    def test_each_part(self):
        for m in BASES:
            for n in range(1, 21):
                due = [number_at(n, k) * math.comb(m + k + 1, n + 1) for k in range(n)]
                self.assertEqual(sum_parts(m, n), due)
                self.assertEqual(powers_sum(m, n), sum(due))

    def test_summed_number_by_number(self):
        for m in tuple(range(25)) + (99, 1000):
            for n in range(1, 21):
                self.assertEqual(powers_sum(m, n), summed(m, n))
                self.assertEqual(sum(sum_parts(m, n)), summed(m, n))

    def test_up_to_the_greatest(self):
        self.assertEqual(powers_sum(MOST, 1), MOST * (MOST + 1) // 2)
        self.assertEqual(powers_sum(MOST, 2), MOST * (MOST + 1) * (2 * MOST + 1) // 6)
        self.assertEqual(powers_sum(MOST, 3), (MOST * (MOST + 1) // 2) ** 2)
        for n in range(1, 21):
            self.assertEqual(powers_sum(MOST, n) - powers_sum(MOST - 1, n), MOST ** n)

    def test_told_ones(self):
        self.assertEqual(sum_parts(0, 1), [0])
        self.assertEqual(sum_parts(0, 20), [0] * 20)
        self.assertEqual(sum_parts(3, 2), [4, 10])
        self.assertEqual(powers_sum(0, 1), 0)
        self.assertEqual(powers_sum(0, 20), 0)
        self.assertEqual(powers_sum(1, 20), 1)
        self.assertEqual(powers_sum(3, 2), 14)

    def test_kinds(self):
        for m, n in ((0, 1), (3, 2), (MOST, 20)):
            self.assert_numbers(list, sum_parts(m, n))
            self.assertIs(type(powers_sum(m, n)), int)


class TestSumShares(Asking):
    def test_told_ones(self):
        self.assertEqual(sum_shares(1), ((0, 1), (1, 2), (1, 2)))
        self.assertEqual(sum_shares(2), ((0, 1), (1, 6), (1, 2), (1, 3)))
        self.assertEqual(sum_shares(3), ((0, 1), (0, 1), (1, 4), (1, 2), (1, 4)))
        self.assertEqual(sum_shares(4), ((0, 1), (-1, 30), (0, 1), (1, 3), (1, 2), (1, 5)))
        self.assertEqual(sum_shares(12)[1], (-691, 2730))

    def test_as_many_shares_in_least_terms(self):
        for n in range(1, 13):
            shares = sum_shares(n)
            self.assertIs(type(shares), tuple)
            self.assertEqual(len(shares), n + 2)
            for share in shares:
                self.assert_numbers(tuple, share)
                top, bottom = share
                self.assertGreaterEqual(bottom, 1)
                self.assertEqual(math.gcd(top, bottom), 1)

    def test_sums_by_them(self):
        # More such m than there are shares, so that no other shares would do.
        for n in range(1, 13):
            for m in tuple(range(n + 3)) + (100, 1000):
                self.assertEqual(sums_told(n, m), summed(m, n))
            for m in (10 ** 5, MOST):
                self.assertEqual(sums_told(n, m), powers_sum(m, n))


class TestSortedBy(Asking):
    def test_told_ones(self):
        self.assertEqual(sorted_by((5,)), ((0,), (5,)))
        self.assertEqual(sorted_by((0,)), ((0,), (0,)))
        self.assertEqual(sorted_by((3, 1, 2)), ((1, 2, 0), (1, 2, 3)))
        self.assertEqual(sorted_by((2, 1, 2, 1)), ((1, 3, 0, 2), (1, 1, 2, 2)))
        self.assertEqual(sorted_by((7,) * 12), (rising(12), (7,) * 12))
        self.assertEqual(sorted_by((MOST, 0)), ((1, 0), (0, MOST)))
        self.assertEqual(sorted_by(falling(12)), (falling(12), rising(12)))

    def test_all_small_rows(self):
        for n, x in ((1, 4), (2, 4), (3, 4), (4, 4), (5, 3)):
            for row in itertools.product(range(x), repeat=n):
                self.assertEqual(sorted_by(row), sorted_found(row))

    def test_long_rows(self):
        for order in drawn_orders(12, 60):
            for part in (1, 2, 4, 12):
                row = tuple([number // part for number in order])
                self.assertEqual(sorted_by(row), sorted_found(row))

    def test_kinds(self):
        for row in ((0,), (2, 1, 2, 1), (MOST,) * 12):
            answer = sorted_by(row)
            self.assertIs(type(answer), tuple)
            self.assertEqual(len(answer), 2)
            self.assertIs(order_good(answer[0]), True)
            self.assert_numbers(tuple, answer[1])


class TestRowWith(Asking):
    def test_told_ones(self):
        self.assertEqual(row_with((0,), (5,)), (5,))
        self.assertEqual(row_with((1, 2, 0), (1, 2, 3)), (3, 1, 2))
        self.assertEqual(row_with((1, 3, 0, 2), (1, 1, 2, 2)), (2, 1, 2, 1))
        self.assertEqual(row_with(rising(12), (7,) * 12), (7,) * 12)
        self.assertEqual(row_with(falling(12), rising(12)), falling(12))
        self.assertEqual(row_with((1, 0), (MOST - 1, MOST)), (MOST, MOST - 1))

    def test_each_of_the_other(self):
        for n, x in ((1, 4), (2, 4), (3, 4), (4, 4), (5, 3)):
            for row in itertools.product(range(x), repeat=n):
                self.assertEqual(row_with(*sorted_by(row)), row)
        for order in drawn_orders(12, 60):
            for part in (1, 2, 4, 12):
                row = tuple([number // part for number in order])
                self.assertEqual(row_with(*sorted_by(row)), row)

    def test_the_other_of_each(self):
        for order in drawn_orders(12, 40) + drawn_orders(7, 40):
            falls = falls_seen(order)
            numbers = [3]
            for place in range(len(order) - 1):
                # Like where they may be, so each bound is met.
                numbers.append(numbers[-1] + (1 if place in falls else 0))
            row = row_with(order, tuple(numbers))
            self.assertEqual(sorted_by(row), (order, tuple(numbers)))

    def test_all_pairs_of_small_rows(self):
        for n, x in ((1, 3), (2, 3), (3, 3), (4, 2)):
            told = {sorted_by(row): row for row in itertools.product(range(x), repeat=n)}
            self.assertEqual(len(told), x ** n)
            for order in all_orders(n):
                for thing in itertools.product(range(x), repeat=n):
                    if (order, thing) in told:
                        self.assertEqual(row_with(order, thing), told[(order, thing)])
                    else:
                        with self.assertRaises(ValueError):
                            row_with(order, thing)

    def test_how_many_rows_by_an_order(self):
        for n, x in ((1, 1), (1, 4), (2, 3), (3, 1), (3, 2), (3, 4), (4, 3), (5, 3)):
            found = {order: 0 for order in all_orders(n)}
            for row in itertools.product(range(x), repeat=n):
                found[sorted_by(row)[0]] += 1
            for order, many in found.items():
                self.assertEqual(many, picks(x + n - 1 - falls_many(order), n))

    def test_kinds(self):
        for row in ((0,), (2, 1, 2, 1), (MOST,) * 12):
            self.assert_numbers(tuple, row_with(*sorted_by(row)))


class TestOwn(Asking):
    """[0.2], where no refusal is due."""

    def test_lists_told_are_the_asker_s_own(self):
        for base in (0, 3, MOST):
            for n in (1, 2, 20):
                self.assert_own(power_parts, base, n)
                self.assert_own(sum_parts, base, n)

    def test_same_question_same_answer(self):
        def answers():
            return [
                (picks(x, n), power_parts(x, n), sum_parts(x, n), powers_sum(x, n), sum_shares(n))
                for x in (0, 5, MOST) for n in (1, 7, 12)
            ] + [sorted_by(row) for row in ((0,), (2, 1, 2, 1))]
        first = answers()
        for ask in (power_parts, sum_parts):
            ask(5, 7).clear()
        with self.assertRaises(ValueError):
            row_with((1, 0), (2, 2))
        self.assertEqual(answers(), first)


if __name__ == "__main__":
    unittest.main()
