"""[8.1] to [8.5]: told ends, and zigzags."""

import itertools
import math
import unittest

from fallcounts import ends as module
from fallcounts.ends import (
    ends_all,
    ends_count,
    first_count,
    is_zigzag,
    last_count,
    zigzag_at,
    zigzag_many,
    zigzag_number,
    zigzag_row,
)
from fallcounts.orders import contrary, order_good, turned

from helper import Asking, all_orders, falling, falls_seen, many_orders, number_at, rising

# Wide enough for each count of orders of 12, so that counts by falls are one number.
SLOT = 40


def orders_by_ends(n):
    """All orders of n, rising, by falls, first and last number."""
    found = {}
    for order in all_orders(n):
        found.setdefault((len(falls_seen(order)), order[0], order[-1]), []).append(order)
    return found


def ends_by_parts(n, first):
    """How many orders of n with a first number have so many falls and a last one.

    Counted over all parts of the numbers that can stand first, by the last of them.
    """
    counts = {(1 << first, first): 1}
    for _ in range(n - 1):
        longer = {}
        for (part, last), packed in counts.items():
            for number in range(n):
                if not part >> number & 1:
                    key = (part | 1 << number, number)
                    longer[key] = longer.get(key, 0) + (packed << SLOT if number < last else packed)
        counts = longer
    return {
        (k, last): packed >> SLOT * k & (1 << SLOT) - 1
        for (_, last), packed in counts.items() for k in range(n)
    }


def first_at(n, k, a):
    """How many orders of n with k falls have a first, summed up over parts with signs."""
    parts = [
        (-1) ** j * math.comb(n, j) * (k - j) ** a * (k - j + 1) ** (n - 1 - a) for j in range(k + 1)
    ]
    return sum(parts)


def zigzags(n):
    return [order for order in all_orders(n) if falls_seen(order) == tuple(range(1, n - 1, 2))]


def zigzag_counts(most):
    """How many zigzags there are of each n up to most, by where the greatest number stands."""
    counts = [1, 1]
    while len(counts) <= most:
        n = len(counts) - 1
        parts = [math.comb(n, k) * counts[k] * counts[n - k] for k in range(n + 1)]
        counts.append(sum(parts) // 2)
    return counts


def seidel_row(n):
    """The row of last numbers, each row summed up from the end of the one ahead."""
    row = [1]
    for _ in range(n - 1):
        row = list(itertools.accumulate(row[::-1], initial=0))
    return row if n % 2 == 0 else row[::-1]


def first_zigzag(n):
    """0, then each two neighbours exchanged: it can't begin with less."""
    numbers = list(range(n))
    for place in range(1, n - 1, 2):
        numbers[place], numbers[place + 1] = numbers[place + 1], numbers[place]
    return tuple(numbers)


def last_zigzag(n):
    """Two by two rising, each two below those ahead."""
    pairs = [(number - 1, number) for number in range(n - 1, 0, -2)]
    numbers = [number for pair in pairs for number in pair]
    return tuple(numbers) if n % 2 == 0 else tuple(numbers + [0])


class TestInterface(Asking):
    def test_names_and_arguments(self):
        self.assert_arguments(module, {
            "first_count": ["n", "k", "a"],
            "last_count": ["n", "k", "a"],
            "ends_count": ["n", "k", "a", "b"],
            "ends_all": ["n", "k", "a", "b"],
            "is_zigzag": ["order"],
            "zigzag_row": ["n"],
            "zigzag_many": ["n"],
            "zigzag_at": ["n", "number"],
            "zigzag_number": ["order"],
        })


class TestCounts(Asking):
    def test_all_orders_gone_through(self):
        for n in range(1, 8):
            found = orders_by_ends(n)
            for k in range(13):
                for a in range(n):
                    first = [len(found.get((k, a, b), [])) for b in range(n)]
                    last = [len(found.get((k, b, a), [])) for b in range(n)]
                    self.assertEqual(first_count(n, k, a), sum(first))
                    self.assertEqual(last_count(n, k, a), sum(last))
                    self.assertEqual([ends_count(n, k, a, b) for b in range(n)], first)

    def test_told_ones(self):
        self.assertEqual(first_count(1, 0, 0), 1)
        self.assertEqual(last_count(1, 0, 0), 1)
        self.assertEqual(ends_count(1, 0, 0, 0), 1)
        for k in range(1, 13):
            self.assertEqual(first_count(1, k, 0), 0)
            self.assertEqual(last_count(1, k, 0), 0)
            self.assertEqual(ends_count(1, k, 0, 0), 0)
        self.assertEqual([first_count(3, 1, a) for a in range(3)], [1, 2, 1])
        self.assertEqual([last_count(3, 1, a) for a in range(3)], [1, 2, 1])
        self.assertEqual([first_count(4, 1, a) for a in range(4)], [4, 4, 2, 1])
        self.assertEqual([last_count(4, 1, a) for a in range(4)], [1, 2, 4, 4])
        self.assertEqual(ends_count(2, 0, 0, 1), 1)
        self.assertEqual(ends_count(2, 1, 1, 0), 1)
        self.assertEqual(ends_count(2, 1, 0, 1), 0)

    def test_no_order_has_one_number_at_both_ends(self):
        for n in range(2, 13):
            for k in range(13):
                for a in range(n):
                    self.assertEqual(ends_count(n, k, a, a), 0)
                    self.assertEqual(ends_all(n, k, a, a), [])

    def test_nothing_at_n_falls_or_more(self):
        for n in range(1, 13):
            for k in range(n, 13):
                for a in (0, n - 1):
                    self.assertEqual(first_count(n, k, a), 0)
                    self.assertEqual(last_count(n, k, a), 0)
                    for b in (0, n - 1):
                        self.assertEqual(ends_count(n, k, a, b), 0)
                        self.assertEqual(ends_all(n, k, a, b), [])

    def test_first_and_last_of_each_n(self):
        for n in range(1, 13):
            for k in range(n):
                for a in range(n):
                    self.assertEqual(first_count(n, k, a), first_at(n, k, a))
                    self.assertEqual(last_count(n, k, a), first_at(n, n - 1 - k, a))

    def test_ends_of_ten_and_twelve(self):
        for n, firsts in ((10, range(10)), (12, (0, 4, 11))):
            for a in firsts:
                due = ends_by_parts(n, a)
                for k in range(13):
                    for b in range(n):
                        self.assertEqual(ends_count(n, k, a, b), due.get((k, b), 0))

    def test_kinds(self):
        for n, k, a, b in ((1, 0, 0, 0), (4, 1, 2, 3), (12, 12, 0, 11), (12, 5, 3, 3)):
            self.assertIs(type(first_count(n, k, a)), int)
            self.assertIs(type(last_count(n, k, a)), int)
            self.assertIs(type(ends_count(n, k, a, b)), int)


class TestEndsAll(Asking):
    def test_all_orders_gone_through(self):
        for n in range(1, 9):
            found = orders_by_ends(n)
            for k in range(n + 1):
                for a in range(n):
                    for b in range(n):
                        due = found.get((k, a, b), [])
                        if len(due) > 300:
                            self.assert_too_great(len(due), 300, ends_all, n, k, a, b)
                        else:
                            self.assertEqual(ends_all(n, k, a, b), due)

    def test_told_lists(self):
        self.assertEqual(ends_all(1, 0, 0, 0), [(0,)])
        self.assertEqual(ends_all(1, 1, 0, 0), [])
        self.assertEqual(ends_all(2, 0, 0, 1), [(0, 1)])
        self.assertEqual(ends_all(4, 1, 0, 3), [(0, 2, 1, 3)])
        self.assertEqual(ends_all(4, 1, 1, 3), [(1, 0, 2, 3), (1, 2, 0, 3)])
        self.assertEqual(ends_all(12, 0, 0, 11), [rising(12)])
        self.assertEqual(ends_all(12, 11, 11, 0), [falling(12)])
        self.assertEqual(ends_all(12, 12, 11, 0), [])

    def test_three_hundred_or_fewer_are_told(self):
        self.assert_too_great(302, 300, ends_all, 8, 3, 0, 1)
        self.assert_too_great(ends_count(12, 5, 3, 7), 300, ends_all, 12, 5, 3, 7)
        for n, k in ((9, 1), (10, 1), (12, 1), (12, 10)):
            for a in range(n):
                for b in range(n):
                    many = ends_count(n, k, a, b)
                    if many > 300:
                        self.assert_too_great(many, 300, ends_all, n, k, a, b)
                        continue
                    orders = ends_all(n, k, a, b)
                    self.assertEqual(len(orders), many)
                    self.assertEqual(orders, sorted(set(orders)))
                    for order in orders:
                        self.assertIs(order_good(order), True)
                        self.assertEqual((len(order), order[0], order[-1]), (n, a, b))
                        self.assertEqual(len(falls_seen(order)), k)

    def test_kinds(self):
        for n, k, a, b in ((1, 0, 0, 0), (4, 1, 1, 3)):
            self.assertIs(type(ends_all(n, k, a, b)), list)
            for order in ends_all(n, k, a, b):
                self.assert_numbers(tuple, order)


class TestZigzag(Asking):
    def test_told_ones(self):
        for order in ((0,), (0, 1), (0, 2, 1), (1, 2, 0), (0, 2, 1, 3), (2, 3, 0, 1), (1, 4, 0, 3, 2)):
            self.assertIs(is_zigzag(order), True)
        for order in ((1, 0), (0, 1, 2), (1, 0, 2), (2, 0, 1), (2, 1, 0), (3, 0, 2, 1), rising(20), falling(20)):
            self.assertIs(is_zigzag(order), False)

    def test_by_their_falls(self):
        for order in many_orders():
            due = falls_seen(order) == tuple([place for place in range(len(order) - 1) if place % 2 == 1])
            self.assertIs(is_zigzag(order), due)

    def test_of_each_n(self):
        for n in range(1, 21):
            for order in (first_zigzag(n), last_zigzag(n)):
                self.assertIs(is_zigzag(order), True)
                # A contrary one falls where it rose; a turned one too where n is even.
                self.assertIs(is_zigzag(contrary(order)), n == 1)
                self.assertIs(is_zigzag(turned(order)), n % 2 == 1)

    def test_two_neighbours_exchanged(self):
        for n in range(2, 21):
            for order in (first_zigzag(n), last_zigzag(n)):
                for place in range(n - 1):
                    other = list(order)
                    other[place], other[place + 1] = other[place + 1], other[place]
                    self.assertIs(is_zigzag(tuple(other)), False)


class TestZigzagCounts(Asking):
    def test_all_orders_gone_through(self):
        for n in range(1, 9):
            found = zigzags(n)
            lasts = [order[-1] for order in found]
            self.assertEqual(zigzag_row(n), [lasts.count(a) for a in range(n)])
            self.assertEqual(zigzag_many(n), len(found))

    def test_told_ones(self):
        self.assertEqual(zigzag_row(1), [1])
        self.assertEqual(zigzag_row(2), [0, 1])
        self.assertEqual(zigzag_row(3), [1, 1, 0])
        self.assertEqual(zigzag_row(4), [0, 1, 2, 2])
        self.assertEqual(zigzag_row(5), [5, 5, 4, 2, 0])
        self.assertEqual(zigzag_many(20), 370371188237525)

    def test_each_n(self):
        counts = zigzag_counts(20)
        for n in range(1, 21):
            self.assertEqual(zigzag_row(n), seidel_row(n))
            self.assertEqual(zigzag_many(n), counts[n])

    def test_kinds(self):
        for n in (1, 2, 20):
            self.assert_numbers(list, zigzag_row(n))
            self.assertIs(type(zigzag_many(n)), int)


class TestZigzagNumbers(Asking):
    def test_all_of_small_n(self):
        for n in range(1, 9):
            found = zigzags(n)
            self.assertEqual([zigzag_at(n, number) for number in range(len(found))], found)
            self.assertEqual([zigzag_number(order) for order in found], list(range(len(found))))

    def test_first_and_last(self):
        for n in range(1, 21):
            many = zigzag_many(n)
            self.assertEqual(zigzag_at(n, 0), first_zigzag(n))
            self.assertEqual(zigzag_at(n, many - 1), last_zigzag(n))
            self.assertEqual(zigzag_number(first_zigzag(n)), 0)
            self.assertEqual(zigzag_number(last_zigzag(n)), many - 1)

    def test_ones_between(self):
        for n in (9, 12, 19, 20):
            many = zigzag_many(n)
            numbers = sorted({many * part // 23 + step for part in range(23) for step in (0, 1)})
            orders = [zigzag_at(n, number) for number in numbers]
            self.assertEqual(orders, sorted(set(orders)))
            for number, order in zip(numbers, orders):
                self.assertIs(order_good(order), True)
                self.assertEqual(len(order), n)
                self.assertEqual(falls_seen(order), tuple(range(1, n - 1, 2)))
                self.assertEqual(zigzag_number(order), number)

    def test_kinds(self):
        for n in (1, 2, 20):
            self.assert_numbers(tuple, zigzag_at(n, 0))
            self.assertIs(type(zigzag_number(zigzag_at(n, 0))), int)


class TestSo(Asking):
    """What [8.5] says behind "So"."""

    def test_over_all_firsts_and_lasts(self):
        for n in range(1, 13):
            for k in range(13):
                firsts = [first_count(n, k, a) for a in range(n)]
                self.assertEqual(sum(firsts), number_at(n, k))
                self.assertEqual(sum([last_count(n, k, a) for a in range(n)]), number_at(n, k))

    def test_over_all_lasts_of_a_first(self):
        for n in (1, 2, 3, 6, 9, 12):
            for k in range(n):
                for a in range(n):
                    counts = [ends_count(n, k, a, b) for b in range(n)]
                    self.assertEqual(sum(counts), first_count(n, k, a))
                    counts = [ends_count(n, k, b, a) for b in range(n)]
                    self.assertEqual(sum(counts), last_count(n, k, a))

    def test_contrary_ones(self):
        for n in range(1, 13):
            for k in range(n):
                for a in range(n):
                    self.assertEqual(first_count(n, k, a), first_count(n, n - 1 - k, n - 1 - a))

    def test_falls_of_zigzags(self):
        for n in range(1, 21):
            due = n // 2 - 1 if n % 2 == 0 else n // 2
            many = zigzag_many(n)
            for number in (0, many // 3, many - 1):
                self.assertEqual(len(falls_seen(zigzag_at(n, number))), due)


class TestOwn(Asking):
    """[0.2], where no refusal is due."""

    def test_lists_told_are_the_asker_s_own(self):
        for n in (1, 2, 5, 20):
            self.assert_own(zigzag_row, n)
        self.assert_own(ends_all, 1, 0, 0, 0)
        self.assert_own(ends_all, 5, 2, 1, 3)
        empty = ends_all(3, 3, 0, 0)
        empty.append((0,))
        self.assertEqual(ends_all(3, 3, 0, 0), [])

    def test_rows_told_do_not_reach_numbers(self):
        before = (zigzag_many(9), zigzag_at(9, 77))
        zigzag_row(9).clear()
        self.assertEqual((zigzag_many(9), zigzag_at(9, 77)), before)

    def test_same_question_same_answer(self):
        def answers():
            return [
                (first_count(12, k, 3), last_count(12, k, 3), ends_count(12, k, 3, 8)) for k in range(13)
            ] + [ends_all(5, 2, 1, 3), zigzag_row(20), zigzag_many(20), zigzag_at(20, 10 ** 14)]
        first = answers()
        with self.assertRaises(ValueError):
            ends_all(12, 5, 3, 7)
        with self.assertRaises(ValueError):
            zigzag_number((1, 0))
        self.assertEqual(answers(), first)


if __name__ == "__main__":
    unittest.main()
