"""[4.1] to [4.6]: told falls."""

import itertools
import math
import unittest

from fallcounts import sets as module
from fallcounts.sets import (
    first_with,
    just_all,
    just_at,
    just_many,
    last_with,
    most_sets,
    set_by,
    set_good,
    sets_of,
    sizes_of,
    within_many,
)

from helper import Asking, falls_seen, number_at, orders_by_falls

# How many zigzags of n there are, from n 1 on.
ZIGZAGS = (1, 1, 2, 5, 16, 61, 272, 1385, 7936, 50521, 353792, 2702765)
ODD_OF_12 = (1, 3, 5, 7, 9)
EVEN_OF_12 = (0, 2, 4, 6, 8, 10)


def all_sets(n):
    return [
        some for k in range(n) for some in itertools.combinations(range(n - 1), k)
    ]


def others_of(n, some):
    return tuple([place for place in range(n - 1) if place not in some])


def parts_of(some):
    """All sets that have places of this one alone, itself among them."""
    return [part for k in range(len(some) + 1) for part in itertools.combinations(some, k)]


def first_found(n, some):
    """The first order with just these falls: rising, but turned along each row of falls."""
    order = []
    block = []
    for place in range(n):
        block.append(place)
        if place not in some:
            order += block[::-1]
            block = []
    return tuple(order)


def last_found(n, some):
    return tuple([n - 1 - number for number in first_found(n, others_of(n, some))])


class TestInterface(Asking):
    def test_names_and_arguments(self):
        self.assert_arguments(module, {
            "set_good": ["n", "thing"],
            "just_many": ["n", "some"],
            "within_many": ["n", "some"],
            "just_all": ["n", "some"],
            "first_with": ["n", "some"],
            "last_with": ["n", "some"],
            "sizes_of": ["n", "some"],
            "set_by": ["sizes"],
            "sets_of": ["n", "k"],
            "most_sets": ["n"],
            "just_at": ["n", "some", "number"],
        })


class TestSetGood(Asking):
    def test_all_sets(self):
        for n in range(1, 13):
            self.assertIs(set_good(n, ()), True)
            for some in all_sets(n):
                self.assertIs(set_good(n, some), True)

    def test_sets_of_fewer_are_sets_of_more(self):
        for some in all_sets(5):
            self.assertIs(set_good(5, some), True)
            self.assertIs(set_good(12, some), True)


class TestMany(Asking):
    def test_all_orders_gone_through(self):
        for n in range(1, 8):
            found = orders_by_falls(n)
            for some in all_sets(n):
                self.assertEqual(just_many(n, some), len(found[some]))
                within = [len(found[part]) for part in parts_of(some)]
                self.assertEqual(within_many(n, some), sum(within))

    def test_told_ones_of_twelve(self):
        told = (
            ((), 1, 1),
            (tuple(range(11)), 1, math.factorial(12)),
            ((0,), 11, 12),
            ((10,), 11, 12),
            ((5,), math.comb(12, 6) - 1, math.comb(12, 6)),
            (ODD_OF_12, 2702765, math.factorial(12) // 2 ** 6),
            (EVEN_OF_12, 2702765, math.factorial(12) // 2 ** 5),
        )
        for some, just, within in told:
            self.assertEqual(just_many(12, some), just)
            self.assertEqual(within_many(12, some), within)

    def test_all_sets_of_twelve(self):
        within = {some: within_many(12, some) for some in all_sets(12)}
        for some in all_sets(12):
            runs = [one - other for one, other in zip(some + (11,), (-1,) + some)]
            due = math.factorial(12) // math.prod([math.factorial(run) for run in runs])
            self.assertEqual(within[some], due)
            if len(some) <= 5:
                signs = [(-1) ** (len(some) - len(part)) * within[part] for part in parts_of(some)]
                self.assertEqual(just_many(12, some), sum(signs))

    def test_kinds(self):
        for n, some in ((1, ()), (2, (0,)), (12, ODD_OF_12)):
            self.assertIs(type(just_many(n, some)), int)
            self.assertIs(type(within_many(n, some)), int)


class TestListed(Asking):
    def test_against_the_list(self):
        for n in range(1, 8):
            for some, orders in orders_by_falls(n).items():
                self.assertEqual(first_with(n, some), orders[0])
                self.assertEqual(last_with(n, some), orders[-1])
                if len(orders) <= 300:
                    self.assertEqual(just_all(n, some), orders)
                step = 1 if n < 7 else 13
                for number in list(range(0, len(orders), step)) + [len(orders) - 1]:
                    self.assertEqual(just_at(n, some, number), orders[number])

    def test_first_and_last(self):
        for n in (9, 12):
            for some in all_sets(n):
                self.assertEqual(first_with(n, some), first_found(n, some))
                self.assertEqual(last_with(n, some), last_found(n, some))

    def test_numbers_of_twelve(self):
        for some in ((), (0,), (5,), (2, 7), (0, 1, 2), ODD_OF_12, EVEN_OF_12, tuple(range(11))):
            many = just_many(12, some)
            numbers = sorted({part * many // 19 for part in range(19)} | {many - 1})
            orders = [just_at(12, some, number) for number in numbers]
            self.assertEqual(orders, sorted(set(orders)))
            self.assertEqual(orders[0], first_found(12, some))
            self.assertEqual(orders[-1], last_found(12, some))
            for number, order in zip(numbers, orders):
                self.assertEqual(falls_seen(order), some)
                # The contrary order has just as many behind it as this one has ahead.
                other = just_at(12, others_of(12, some), many - 1 - number)
                self.assertEqual(other, tuple([11 - place for place in order]))

    def test_told_lists(self):
        self.assertEqual(just_all(1, ()), [(0,)])
        self.assertEqual(just_all(3, (0,)), [(1, 0, 2), (2, 0, 1)])
        self.assertEqual(just_all(4, (1,)), [
            (0, 2, 1, 3), (0, 3, 1, 2), (1, 2, 0, 3), (1, 3, 0, 2), (2, 3, 0, 1),
        ])
        self.assertEqual(just_all(12, ()), [tuple(range(12))])
        self.assertEqual(just_all(12, tuple(range(11))), [tuple(range(11, -1, -1))])

    def test_three_hundred_or_fewer_are_told(self):
        orders = just_all(9, (2, 3))
        self.assertEqual(len(orders), 295)
        self.assertEqual(orders, sorted(set(orders)))
        for number, order in enumerate(orders):
            self.assertEqual(falls_seen(order), (2, 3))
            self.assertEqual(sorted(order), list(range(9)))
            self.assertEqual(just_at(9, (2, 3), number), order)
        self.assert_too_great(306, 300, just_all, 10, (0, 7))
        self.assert_too_great(2702765, 300, just_all, 12, ODD_OF_12)

    def test_each_set(self):
        for n in (8, 11):
            for some in all_sets(n):
                many = just_many(n, some)
                if many > 300:
                    self.assert_too_great(many, 300, just_all, n, some)
                    continue
                orders = just_all(n, some)
                self.assertEqual(len(orders), many)
                self.assertEqual(orders, sorted(set(orders)))
                self.assertEqual({falls_seen(order) for order in orders}, {some})

    def test_kinds(self):
        for n, some in ((1, ()), (3, (0,)), (12, (10,))):
            self.assertIs(type(just_all(n, some)), list)
            for order in just_all(n, some) + [first_with(n, some), last_with(n, some), just_at(n, some, 0)]:
                self.assert_numbers(tuple, order)


class TestSizes(Asking):
    def test_told_ones(self):
        told = (
            (1, (), (1,)),
            (2, (), (2,)),
            (2, (0,), (1, 1)),
            (5, (1, 3), (2, 2, 1)),
            (12, (), (12,)),
            (12, (0, 10), (1, 10, 1)),
            (12, tuple(range(11)), (1,) * 12),
        )
        for n, some, sizes in told:
            self.assertEqual(sizes_of(n, some), sizes)
            self.assertEqual(set_by(sizes), (n, some))

    def test_each_of_the_other(self):
        for n in range(1, 13):
            for some in all_sets(n):
                sizes = sizes_of(n, some)
                ends = tuple(itertools.accumulate(sizes))
                self.assertEqual(tuple([end - 1 for end in ends]), some + (n - 1,))
                self.assertEqual(set_by(sizes), (n, some))

    def test_runs_of_an_order(self):
        for n in range(1, 7):
            for some, orders in orders_by_falls(n).items():
                for order in orders[:3]:
                    sizes = [1]
                    for one, other in zip(order, order[1:]):
                        if one > other:
                            sizes.append(0)
                        sizes[-1] += 1
                    self.assertEqual(sizes_of(n, some), tuple(sizes))

    def test_kinds(self):
        for n, some in ((1, ()), (5, (1, 3)), (12, tuple(range(11)))):
            self.assert_numbers(tuple, sizes_of(n, some))
            answer = set_by(sizes_of(n, some))
            self.assertIs(type(answer), tuple)
            self.assertEqual(len(answer), 2)
            self.assertIs(type(answer[0]), int)
            self.assert_numbers(tuple, answer[1])


class TestSets(Asking):
    def test_each_n_and_k(self):
        for n in range(1, 13):
            for k in range(13):
                due = list(itertools.combinations(range(n - 1), k))
                self.assertEqual(sets_of(n, k), due)
                self.assertEqual(due, sorted(due))

    def test_told_ones(self):
        self.assertEqual(sets_of(1, 0), [()])
        self.assertEqual(sets_of(1, 1), [])
        self.assertEqual(sets_of(4, 2), [(0, 1), (0, 2), (1, 2)])
        self.assertEqual(sets_of(12, 11), [tuple(range(11))])
        self.assertEqual(sets_of(12, 12), [])

    def test_kinds(self):
        for n, k in ((1, 0), (4, 2), (12, 5)):
            self.assertIs(type(sets_of(n, k)), list)
            for some in sets_of(n, k):
                self.assert_numbers(tuple, some)

    def test_most_by_all_orders(self):
        for n in range(1, 8):
            found = {some: len(orders) for some, orders in orders_by_falls(n).items()}
            many = max(found.values())
            due = tuple(sorted([some for some in found if found[some] == many]))
            self.assertEqual(most_sets(n), (many, due))

    def test_most_are_the_zigzags(self):
        self.assertEqual(most_sets(1), (1, ((),)))
        self.assertEqual(most_sets(2), (1, ((), (0,))))
        for n in range(2, 11):
            even, odd = tuple(range(0, n - 1, 2)), tuple(range(1, n - 1, 2))
            due = tuple(sorted([even, odd]))
            self.assertEqual(most_sets(n), (ZIGZAGS[n - 1], due))

    def test_kinds_of_most(self):
        for n in (1, 2, 5, 10):
            answer = most_sets(n)
            self.assertIs(type(answer), tuple)
            self.assertEqual(len(answer), 2)
            self.assertIs(type(answer[0]), int)
            self.assertIs(type(answer[1]), tuple)
            for some in answer[1]:
                self.assert_numbers(tuple, some)


class TestSo(Asking):
    """What [4.6] says behind "So"."""

    def test_within_is_just_of_all_parts(self):
        for n in range(1, 10):
            just = {some: just_many(n, some) for some in all_sets(n)}
            for some in all_sets(n):
                together = sum([just[part] for part in parts_of(some)])
                self.assertEqual(within_many(n, some), together)

    def test_sets_of_k_places_come_to_the_orders_of_k_falls(self):
        for n in range(1, 13):
            for k in range(n):
                together = sum([just_many(n, some) for some in sets_of(n, k)])
                self.assertEqual(together, number_at(n, k))

    def test_as_many_with_all_other_places(self):
        for n in range(1, 13):
            for some in all_sets(n):
                self.assertEqual(just_many(n, some), just_many(n, others_of(n, some)))


class TestOwn(Asking):
    """[0.2], where no refusal is due."""

    def test_lists_told_are_the_asker_s_own(self):
        self.assert_own(just_all, 4, (1,))
        self.assert_own(just_all, 12, ())
        self.assert_own(sets_of, 4, 2)
        self.assert_own(sets_of, 1, 0)
        empty = sets_of(1, 5)
        empty.append(())
        self.assertEqual(sets_of(1, 5), [])

    def test_same_question_same_answer(self):
        def answers():
            return [
                (just_many(12, some), within_many(12, some), first_with(12, some), last_with(12, some),
                 sizes_of(12, some), just_at(12, some, 0))
                for some in ((), (5,), ODD_OF_12, EVEN_OF_12)
            ] + [most_sets(n) for n in range(1, 8)] + [sets_of(5, k) for k in range(6)]
        first = answers()
        with self.assertRaises(ValueError):
            just_all(12, ODD_OF_12)
        with self.assertRaises(ValueError):
            just_many(3, (2,))
        self.assertEqual(answers(), first)

    def test_what_is_told_may_be_handed_in_again(self):
        for n in range(1, 9):
            for some in most_sets(n)[1]:
                self.assertEqual(just_many(n, some), most_sets(n)[0])
            for k in range(n):
                for some in sets_of(n, k):
                    again, same = set_by(sizes_of(n, some))
                    self.assertEqual(falls_seen(first_with(again, same)), some)


if __name__ == "__main__":
    unittest.main()
