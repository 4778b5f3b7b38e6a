"""[3.1] to [3.4]: orders of so many falls, listed and numbered."""

import itertools
import unittest

from fallcounts import listed as module
from fallcounts.listed import (
    begun_many,
    next_numbers,
    next_order,
    number_of,
    order_at,
    orders_all,
    told_needed,
)
from fallcounts.orders import contrary, order_good

from helper import (
    Asking,
    all_orders,
    drawn_orders,
    falling,
    falls_seen,
    number_at,
    orders_by_many,
    rising,
)


def first_of(n, k):
    """The first order of n with just k falls: it falls at its end alone."""
    return tuple(range(n - k - 1)) + tuple(range(n - 1, n - k - 2, -1))


def last_of(n, k):
    return tuple([n - 1 - number for number in first_of(n, n - 1 - k)])


def beginnings(n):
    """All beginnings for n, () and whole orders among them."""
    return [
        begun for many in range(n + 1) for begun in itertools.permutations(range(n), many)
    ]


class TestInterface(Asking):
    def test_names_and_arguments(self):
        self.assert_arguments(module, {
            "orders_all": ["n", "k"],
            "order_at": ["n", "k", "number"],
            "number_of": ["order"],
            "next_order": ["order"],
            "begun_many": ["n", "k", "begun"],
            "next_numbers": ["n", "k", "begun"],
        })


class TestOrdersAll(Asking):
    def test_all_orders_gone_through(self):
        for n in range(1, 8):
            found = orders_by_many(n)
            for k in range(n):
                if len(found[k]) <= 300:
                    self.assertEqual(orders_all(n, k), found[k])

    def test_told_lists(self):
        self.assertEqual(orders_all(1, 0), [(0,)])
        self.assertEqual(orders_all(2, 1), [(1, 0)])
        self.assertEqual(orders_all(3, 1), [(0, 2, 1), (1, 0, 2), (1, 2, 0), (2, 0, 1)])
        self.assertEqual(orders_all(12, 0), [rising(12)])
        self.assertEqual(orders_all(12, 11), [falling(12)])

    def test_nothing_where_there_is_none(self):
        for n in range(1, 13):
            for k in range(n, 13):
                self.assertEqual(orders_all(n, k), [])

    def test_just_three_hundred_or_fewer(self):
        # No n and k have just 300 orders, so the bound itself is asked about by itself.
        self.assertIsNone(told_needed(300))
        self.assert_too_great(301, 300, told_needed, 301)
        # 247 orders of 8 have one fall, and as many have six.
        self.assertEqual(len(orders_all(8, 1)), 247)
        self.assertEqual(len(orders_all(8, 6)), 247)
        self.assert_too_great(302, 300, orders_all, 6, 2)
        self.assert_too_great(302, 300, orders_all, 6, 3)
        self.assert_too_great(502, 300, orders_all, 9, 1)

    def test_each_n_and_k(self):
        for n in range(1, 13):
            for k in range(13):
                many = number_at(n, k)
                if many > 300:
                    self.assert_too_great(many, 300, orders_all, n, k)
                    continue
                orders = orders_all(n, k)
                self.assertIs(type(orders), list)
                self.assertEqual(len(orders), many)
                self.assertEqual(orders, sorted(set(orders)))
                for order in orders:
                    self.assertIs(order_good(order), True)
                    self.assertEqual(len(order), n)
                    self.assertEqual(len(falls_seen(order)), k)


class TestNumbered(Asking):
    def test_against_the_list(self):
        for n in range(1, 7):
            for k, orders in orders_by_many(n).items():
                for number, order in enumerate(orders):
                    self.assertEqual(order_at(n, k, number), order)
                    self.assertEqual(number_of(order), number)
                for one, other in zip(orders, orders[1:]):
                    self.assertEqual(next_order(one), other)
                self.assertIsNone(next_order(orders[-1]))

    def test_against_the_list_of_eight(self):
        for k, orders in orders_by_many(8).items():
            for number in list(range(0, len(orders), 97)) + [len(orders) - 1]:
                order = orders[number]
                self.assertEqual(order_at(8, k, number), order)
                self.assertEqual(number_of(order), number)
                due = orders[number + 1] if number + 1 < len(orders) else None
                self.assertEqual(next_order(order), due)

    def test_first_and_last(self):
        for n in range(1, 13):
            for k in range(n):
                many = number_at(n, k)
                first, last = first_of(n, k), last_of(n, k)
                self.assertEqual(order_at(n, k, 0), first)
                self.assertEqual(number_of(first), 0)
                self.assertEqual(order_at(n, k, many - 1), last)
                self.assertEqual(number_of(last), many - 1)
                self.assertIsNone(next_order(last))

    def test_in_between_of_twelve(self):
        for k in range(12):
            many = number_at(12, k)
            numbers = sorted({part * many // 17 for part in range(17)})
            orders = [order_at(12, k, number) for number in numbers]
            self.assertEqual(orders, sorted(set(orders)))
            for number, order in zip(numbers, orders):
                self.assertEqual(len(falls_seen(order)), k)
                self.assertEqual(number_of(order), number)

    def test_contrary_orders_are_numbered_from_the_other_end(self):
        for order in drawn_orders(12, 30) + drawn_orders(11, 30):
            many = number_at(len(order), len(falls_seen(order)))
            self.assertEqual(number_of(contrary(order)), many - 1 - number_of(order))

    def test_next_by_going_on_through_all(self):
        # From a drawn order on, all orders in tuple order up to the next one of as many falls.
        for order in drawn_orders(12, 20):
            self.assertEqual(next_order(order), self.next_found(order))

    def next_found(self, order):
        falls = len(falls_seen(order))
        numbers = list(order)
        while True:
            at = len(numbers) - 2
            while numbers[at] > numbers[at + 1]:
                at -= 1
            greater = max([to for to in range(at + 1, 12) if numbers[to] > numbers[at]])
            numbers[at], numbers[greater] = numbers[greater], numbers[at]
            numbers[at + 1:] = numbers[:at:-1]
            if len(falls_seen(numbers)) == falls:
                return tuple(numbers)

    def test_orders_of_twelve_are_taken(self):
        for order in (rising(12), falling(12)):
            self.assertEqual(number_of(order), 0)
            self.assertIsNone(next_order(order))

    def test_kinds(self):
        for order in ((0,), (1, 0), (0, 2, 1), drawn_orders(12, 1)[0]):
            self.assertIs(type(number_of(order)), int)
            self.assert_numbers(tuple, order_at(len(order), len(falls_seen(order)), 0))
        self.assert_numbers(tuple, next_order((0, 2, 1)))


class TestBegun(Asking):
    def test_against_the_list(self):
        for n in range(1, 6):
            orders = all_orders(n)
            falls = {order: len(falls_seen(order)) for order in orders}
            for begun in beginnings(n):
                having = [order for order in orders if order[:len(begun)] == begun]
                for k in range(13):
                    just = [order for order in having if falls[order] == k]
                    self.assertEqual(begun_many(n, k, begun), len(just))
                    due = sorted({order[len(begun)] for order in just if len(begun) < n})
                    self.assertEqual(next_numbers(n, k, begun), due)

    def test_beginnings_of_twelve(self):
        for order in drawn_orders(12, 6) + [rising(12), falling(12)]:
            for many in (7, 9, 11, 12):
                begun = order[:many]
                rest = sorted(order[many:])
                just = {k: [] for k in range(13)}
                for end in itertools.permutations(rest):
                    just[len(falls_seen(begun + end))].append(end)
                for k, ends in just.items():
                    self.assertEqual(begun_many(12, k, begun), len(ends))
                    due = sorted({end[0] for end in ends if end})
                    self.assertEqual(next_numbers(12, k, begun), due)

    def test_nothing_begun(self):
        for n in range(1, 13):
            for k in range(13):
                self.assertEqual(begun_many(n, k, ()), number_at(n, k))
                if k in (0, n - 1):
                    due = [0] if k == 0 else [n - 1]
                else:
                    due = list(range(n)) if k < n else []
                self.assertEqual(next_numbers(n, k, ()), due)

    def test_a_whole_order(self):
        for order in all_orders(4) + drawn_orders(12, 10):
            for k in range(13):
                due = 1 if len(falls_seen(order)) == k else 0
                self.assertEqual(begun_many(len(order), k, order), due)
                self.assertEqual(next_numbers(len(order), k, order), [])

    def test_too_many_falls_begun(self):
        self.assertEqual(begun_many(5, 1, (4, 3, 2)), 0)
        self.assertEqual(next_numbers(5, 1, (4, 3, 2)), [])
        self.assertEqual(begun_many(5, 2, (4, 3, 2)), 0)
        self.assertEqual(begun_many(5, 3, (4, 3, 2)), 1)
        self.assertEqual(next_numbers(5, 3, (4, 3, 2)), [0])
        self.assertEqual(next_numbers(5, 4, (4, 3, 2)), [1])

    def test_kinds(self):
        for n, k, begun in ((1, 0, ()), (1, 0, (0,)), (5, 2, (3, 1)), (12, 5, (0, 11))):
            self.assertIs(type(begun_many(n, k, begun)), int)
            self.assert_numbers(list, next_numbers(n, k, begun))


class TestSo(Asking):
    """What [3.4] says behind "So"."""

    def test_beginnings_by_one_number_come_to_all(self):
        for n in range(1, 13):
            for k in range(13):
                parts = [begun_many(n, k, (number,)) for number in range(n)]
                self.assertEqual(sum(parts), begun_many(n, k, ()))

    def test_longer_beginnings_come_to_the_beginning(self):
        for order in drawn_orders(12, 5):
            k = len(falls_seen(order))
            for many in range(12):
                begun = order[:many]
                longer = [begun + (number,) for number in next_numbers(12, k, begun)]
                parts = [begun_many(12, k, one) for one in longer]
                self.assertEqual(sum(parts), begun_many(12, k, begun))
                self.assertNotIn(0, parts)

    def test_each_order_has_its_number(self):
        for n in range(1, 13):
            for order in drawn_orders(n, 10):
                k = len(falls_seen(order))
                self.assertEqual(order_at(n, k, number_of(order)), order)

    def test_the_next_one_has_one_more(self):
        for n in range(3, 13):
            for order in drawn_orders(n, 10):
                other = next_order(order)
                if other is not None:
                    self.assertEqual(number_of(other), number_of(order) + 1)
                    self.assertEqual(len(falls_seen(other)), len(falls_seen(order)))


class TestOwn(Asking):
    """[0.2], where no refusal is due."""

    def test_lists_told_are_the_asker_s_own(self):
        self.assert_own(orders_all, 3, 1)
        self.assert_own(orders_all, 12, 0)
        self.assert_own(next_numbers, 12, 5, ())
        self.assert_own(next_numbers, 5, 2, (3, 1))
        empty = orders_all(3, 7)
        empty.append((0,))
        self.assertEqual(orders_all(3, 7), [])

    def test_same_question_same_answer(self):
        def answers():
            orders = drawn_orders(12, 10)
            return [
                (number_of(order), next_order(order), next_numbers(12, 5, order[:4]),
                 begun_many(12, 5, order[:4]))
                for order in orders
            ] + [orders_all(5, k) for k in range(6)]
        first = answers()
        with self.assertRaises(ValueError):
            orders_all(12, 5)
        with self.assertRaises(ValueError):
            number_of(rising(13))
        self.assertEqual(answers(), first)


if __name__ == "__main__":
    unittest.main()
