"""[2.1] to [2.5]: the triangle."""

import fractions
import math
import unittest

from fallcounts import triangle as module
from fallcounts.triangle import (
    count_of,
    count_parts,
    greatest_at,
    mean_falls,
    row_before,
    row_good,
    row_next,
    row_of,
    spread_of,
    upto_count,
)

from helper import Asking, all_orders, falls_seen, number_at

TOLD = (
    [1],
    [1, 1],
    [1, 4, 1],
    [1, 11, 11, 1],
    [1, 26, 66, 26, 1],
    [1, 57, 302, 302, 57, 1],
    [1, 120, 1191, 2416, 1191, 120, 1],
    [1, 247, 4293, 15619, 15619, 4293, 247, 1],
)


def falls_of_all(n):
    return [len(falls_seen(order)) for order in all_orders(n)]


class TestInterface(Asking):
    def test_names_and_arguments(self):
        self.assert_arguments(module, {
            "row_of": ["n"],
            "count_of": ["n", "k"],
            "upto_count": ["n", "k"],
            "row_good": ["thing"],
            "row_next": ["row"],
            "row_before": ["row"],
            "count_parts": ["n", "k"],
            "mean_falls": ["n"],
            "spread_of": ["n"],
            "greatest_at": ["n"],
        })


class TestRows(Asking):
    def test_told_rows(self):
        for row in TOLD:
            self.assertEqual(row_of(len(row)), row)

    def test_all_orders_gone_through(self):
        for n in range(1, 8):
            falls = falls_of_all(n)
            self.assertEqual(row_of(n), [falls.count(k) for k in range(n)])
            for k in range(31):
                self.assertEqual(count_of(n, k), falls.count(k))
                self.assertEqual(upto_count(n, k), len([f for f in falls if f <= k]))

    def test_rows_up_to_thirty(self):
        for n in range(1, 31):
            due = [number_at(n, k) for k in range(n)]
            self.assertEqual(row_of(n), due)
            for k in range(31):
                self.assertEqual(count_of(n, k), due[k] if k < n else 0)
                self.assertEqual(upto_count(n, k), sum(due[:k + 1]))

    def test_row_of_thirty(self):
        row = row_of(30)
        self.assertEqual(len(row), 30)
        self.assertEqual(row[:3], [1, 2 ** 30 - 31, 3 ** 30 - 31 * 2 ** 30 + 465])
        self.assertEqual(row[14], row[15])
        self.assertEqual(row[29], 1)
        self.assertEqual(sum(row), math.factorial(30))

    def test_k_at_n_and_beyond(self):
        for n in range(1, 31):
            for k in (n - 1, n, n + 1, 30):
                if k <= 30:
                    self.assertEqual(count_of(n, k), 1 if k == n - 1 else 0)
                    self.assertEqual(upto_count(n, k), math.factorial(n))

    def test_kinds(self):
        for n in (1, 2, 7, 30):
            self.assert_numbers(list, row_of(n))
            for k in (0, 1, n, 30):
                self.assertIs(type(count_of(n, k)), int)
                self.assertIs(type(upto_count(n, k)), int)


class TestNextAndBefore(Asking):
    def test_each_row_leads_to_the_other(self):
        for n in range(1, 30):
            self.assertEqual(row_next(row_of(n)), row_of(n + 1))
            self.assertEqual(row_before(row_of(n + 1)), row_of(n))

    def test_told_rows(self):
        for one, other in zip(TOLD, TOLD[1:]):
            self.assertEqual(row_next(list(one)), other)
            self.assertEqual(row_before(list(other)), one)

    def test_kinds(self):
        for n in (2, 3, 29):
            self.assert_numbers(list, row_next(row_of(n)))
            self.assert_numbers(list, row_before(row_of(n)))

    def test_rows_are_good(self):
        for row in TOLD:
            self.assertIs(row_good(list(row)), True)
        for n in range(1, 31):
            self.assertIs(row_good(row_of(n)), True)


class TestParts(Asking):
    def test_told_parts(self):
        self.assertEqual(count_parts(1, 0), [1])
        self.assertEqual(count_parts(1, 1), [2, -2])
        self.assertEqual(count_parts(1, 3), [4, -6, 2, 0])
        self.assertEqual(count_parts(3, 1), [8, -4])
        self.assertEqual(count_parts(4, 2), [81, -80, 10])
        self.assertEqual(count_parts(4, 3), [256, -405, 160, -10])
        self.assertEqual(count_parts(30, 0), [1])
        self.assertEqual(count_parts(30, 1), [2 ** 30, -31])

    def test_each_part_with_its_sign(self):
        for n in (1, 2, 3, 6, 11, 29, 30):
            for k in range(31):
                parts = count_parts(n, k)
                self.assert_numbers(list, parts)
                self.assertEqual(len(parts), k + 1)
                for j, part in enumerate(parts):
                    ways = math.comb(n + 1, j) * (k + 1 - j) ** n
                    self.assertEqual(part, ways * (-1) ** j)

    def test_so_they_come_to_count_of(self):
        for n in range(1, 31):
            for k in range(31):
                self.assertEqual(sum(count_parts(n, k)), count_of(n, k))


class TestShares(Asking):
    def test_all_orders_gone_through(self):
        for n in range(1, 8):
            falls = falls_of_all(n)
            mean = fractions.Fraction(sum(falls), len(falls))
            squares = sum([(many - mean) ** 2 for many in falls])
            spread = squares / len(falls)
            self.assertEqual(mean_falls(n), (mean.numerator, mean.denominator))
            self.assertEqual(spread_of(n), (spread.numerator, spread.denominator))

    def test_told_shares(self):
        self.assertEqual(mean_falls(1), (0, 1))
        self.assertEqual(spread_of(1), (0, 1))
        self.assertEqual(mean_falls(2), (1, 2))
        self.assertEqual(spread_of(2), (1, 4))
        self.assertEqual(mean_falls(3), (1, 1))
        self.assertEqual(spread_of(3), (1, 3))

    def test_up_to_thirty(self):
        for n in range(2, 31):
            mean = fractions.Fraction(n - 1, 2)
            spread = fractions.Fraction(n + 1, 12)
            self.assertEqual(mean_falls(n), (mean.numerator, mean.denominator))
            self.assertEqual(spread_of(n), (spread.numerator, spread.denominator))

    def test_kinds(self):
        for n in (1, 2, 11, 30):
            self.assert_numbers(tuple, mean_falls(n))
            self.assert_numbers(tuple, spread_of(n))


class TestGreatest(Asking):
    def test_told_ones(self):
        self.assertEqual(greatest_at(1), (1, (0,)))
        self.assertEqual(greatest_at(2), (1, (0, 1)))
        self.assertEqual(greatest_at(3), (4, (1,)))
        self.assertEqual(greatest_at(4), (11, (1, 2)))
        self.assertEqual(greatest_at(5), (66, (2,)))
        self.assertEqual(greatest_at(6), (302, (2, 3)))

    def test_one_place_or_two(self):
        for n in range(1, 31):
            many, places = greatest_at(n)
            row = row_of(n)
            self.assertEqual(many, max(row))
            self.assertEqual(places, tuple([k for k in range(n) if row[k] == many]))
            due = (n // 2,) if n % 2 else (n // 2 - 1, n // 2)
            self.assertEqual(places, due)

    def test_kinds(self):
        for n in (1, 2, 7, 30):
            answer = greatest_at(n)
            self.assertIs(type(answer), tuple)
            self.assertEqual(len(answer), 2)
            self.assertIs(type(answer[0]), int)
            self.assert_numbers(tuple, answer[1])


class TestSo(Asking):
    """What [2.5] says behind "So", over n from 1 to 30."""

    def test_rows_read_alike_from_both_ends(self):
        for n in range(1, 31):
            self.assertEqual(row_of(n), row_of(n)[::-1])

    def test_rows_come_to_all_orders(self):
        for n in range(1, 31):
            self.assertEqual(sum(row_of(n)), math.factorial(n))

    def test_each_number_by_the_two_above(self):
        for n in range(2, 31):
            above = dict(enumerate(row_of(n - 1)))
            for k, number in enumerate(row_of(n)):
                due = (k + 1) * above.get(k, 0) + (n - k) * above.get(k - 1, 0)
                self.assertEqual(number, due)


class TestOwn(Asking):
    """[0.2], where no refusal is due."""

    def test_lists_told_are_the_asker_s_own(self):
        for n in (1, 2, 7, 29, 30):
            self.assert_own(row_of, n)
            self.assert_own(count_parts, n, 5)
        for n in (2, 7, 29):
            self.assert_own(row_next, row_of(n))
            self.assert_own(row_before, row_of(n))
        self.assert_own(row_next, [1])
        self.assert_own(row_before, row_of(30))

    def test_rows_handed_in_stay_as_they_were(self):
        for n in range(2, 30):
            row = row_of(n)
            row_good(row)
            longer, shorter = row_next(row), row_before(row)
            self.assertEqual(row, row_of(n))
            row.clear()
            self.assertEqual(longer, row_of(n + 1))
            self.assertEqual(shorter, row_of(n - 1))

    def test_a_row_changed_between_two_questions(self):
        row = [1, 4, 1]
        self.assertIs(row_good(row), True)
        row[1] = 5
        self.assertIs(row_good(row), False)
        row[1] = 4
        self.assertIs(row_good(row), True)

    def test_same_question_same_answer(self):
        def answers():
            return [
                (row_of(n), count_of(n, 3), upto_count(n, 3), count_parts(n, 3),
                 mean_falls(n), spread_of(n), greatest_at(n))
                for n in range(1, 31)
            ]
        first = answers()
        with self.assertRaises(ValueError):
            row_next(row_of(30))
        with self.assertRaises(ValueError):
            row_of(31)
        self.assertEqual(answers(), first)


if __name__ == "__main__":
    unittest.main()
