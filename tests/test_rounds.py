"""[7.1] to [7.5]: rounds, lifts and drops."""

import math
import unittest

from fallcounts import rounds as module
from fallcounts.orders import back, falls_of, order_good
from fallcounts.rounds import (
    both_all,
    both_count,
    drops_of,
    laid,
    lifts_of,
    none_count,
    rounds_count,
    rounds_of,
    taken_up,
)

from helper import Asking, all_orders, falling, many_orders, number_at, rising


def rounds_found(order):
    """The rounds of an order, each place followed on until it comes again."""
    found = set()
    for place in range(len(order)):
        along = [place]
        while order[along[-1]] not in along:
            along.append(order[along[-1]])
        at = along.index(max(along))
        found.add(tuple(along[at:] + along[:at]))
    return sorted(found)


def drops_found(order):
    return tuple([place for place in range(len(order)) if order[place] < place])


def lifts_found(order):
    return tuple([place for place in range(len(order)) if order[place] > place])


def own_places(order):
    return [place for place in range(len(order)) if order[place] == place]


def orders_by_both(n):
    """All orders of n, rising, by how many rounds and how many drops they have."""
    found = {}
    for order in all_orders(n):
        both = (len(rounds_found(order)), len(drops_found(order)))
        found.setdefault(both, []).append(order)
    return found


def in_twos(n):
    """The order of n, n even, whose rounds are two neighbours each."""
    return tuple([place ^ 1 for place in range(n)])


def one_round(n):
    return rising(n)[1:] + (0,)


class TestInterface(Asking):
    def test_names_and_arguments(self):
        self.assert_arguments(module, {
            "rounds_of": ["order"],
            "lifts_of": ["order"],
            "drops_of": ["order"],
            "laid": ["order"],
            "taken_up": ["order"],
            "rounds_count": ["n", "r"],
            "both_count": ["n", "r", "k"],
            "none_count": ["n", "k"],
            "both_all": ["n", "r", "k"],
        })


class TestRounds(Asking):
    def test_told_ones(self):
        told = (
            # order, rounds, lifts, drops
            ((0,), [(0,)], (), ()),
            ((1, 0), [(1, 0)], (0,), (1,)),
            ((0, 1, 2), [(0,), (1,), (2,)], (), ()),
            ((2, 1, 0), [(1,), (2, 0)], (0,), (2,)),
            ((1, 2, 0), [(2, 0, 1)], (0, 1), (2,)),
            ((2, 0, 1), [(2, 1, 0)], (0,), (1, 2)),
            ((1, 0, 3, 2), [(1, 0), (3, 2)], (0, 2), (1, 3)),
            ((3, 1, 0, 2), [(1,), (3, 2, 0)], (0,), (2, 3)),
            ((3, 2, 1, 0), [(2, 1), (3, 0)], (0, 1), (2, 3)),
        )
        for order, rounds, lifts, drops in told:
            self.assertEqual(rounds_of(order), rounds)
            self.assertEqual(lifts_of(order), lifts)
            self.assertEqual(drops_of(order), drops)

    def test_rising_turned_in_twos_and_one_round(self):
        for n in (1, 2, 3, 12, 19, 20):
            self.assertEqual(rounds_of(rising(n)), [(place,) for place in range(n)])
            self.assertEqual(lifts_of(rising(n)), ())
            self.assertEqual(drops_of(rising(n)), ())
            self.assertEqual(lifts_of(falling(n)), rising(n // 2))
            self.assertEqual(drops_of(falling(n)), rising(n)[n - n // 2:])
            self.assertEqual(rounds_of(one_round(n)), [(n - 1,) + rising(n - 1)])
            self.assertEqual(drops_of(one_round(n)), (n - 1,) if n > 1 else ())
        for n in (2, 4, 20):
            self.assertEqual(rounds_of(in_twos(n)), [(place + 1, place) for place in range(0, n, 2)])
            self.assertEqual(rounds_of(falling(n)), [(n - 1 - place, place) for place in range(n // 2 - 1, -1, -1)])

    def test_against_what_is_found(self):
        for order in many_orders():
            self.assertEqual(rounds_of(order), rounds_found(order))
            self.assertEqual(lifts_of(order), lifts_found(order))
            self.assertEqual(drops_of(order), drops_found(order))

    def test_kinds(self):
        for order in ((0,), (3, 1, 0, 2), falling(20)):
            rounds = rounds_of(order)
            self.assertIs(type(rounds), list)
            for found in rounds:
                self.assert_numbers(tuple, found)
            self.assert_numbers(tuple, lifts_of(order))
            self.assert_numbers(tuple, drops_of(order))


class TestLaid(Asking):
    def test_told_ones(self):
        told = (
            ((0,), (0,)),
            ((1, 0), (1, 0)),
            ((0, 1, 2), (0, 1, 2)),
            ((2, 1, 0), (1, 2, 0)),
            ((1, 2, 0), (2, 0, 1)),
            ((2, 0, 1), (2, 1, 0)),
            ((1, 0, 3, 2), (1, 0, 3, 2)),
            ((3, 1, 0, 2), (1, 3, 2, 0)),
            (rising(20), rising(20)),
            (in_twos(20), in_twos(20)),
            (one_round(20), (19,) + rising(19)),
        )
        for order, due in told:
            self.assertEqual(laid(order), due)
            self.assertEqual(taken_up(due), order)

    def test_round_by_round(self):
        for order in many_orders():
            due = [place for found in rounds_found(order) for place in found]
            self.assertEqual(laid(order), tuple(due))

    def test_each_of_the_other(self):
        for order in many_orders():
            self.assertEqual(taken_up(laid(order)), order)
            self.assertEqual(laid(taken_up(order)), order)

    def test_just_one_each(self):
        for n in range(1, 8):
            orders = all_orders(n)
            self.assertEqual(sorted([laid(order) for order in orders]), orders)
            self.assertEqual(sorted([taken_up(order) for order in orders]), orders)

    def test_as_many_falls_as_drops(self):
        for order in many_orders():
            self.assertEqual(len(falls_of(laid(order))), len(drops_of(order)))
            self.assertEqual(len(falls_of(order)), len(drops_of(taken_up(order))))

    def test_kinds(self):
        for order in ((0,), (3, 1, 0, 2), falling(20)):
            self.assert_numbers(tuple, laid(order))
            self.assert_numbers(tuple, taken_up(order))


class TestCounts(Asking):
    def test_all_orders_gone_through(self):
        for n in range(1, 8):
            found = orders_by_both(n)
            for r in range(21):
                due = [len(orders) for both, orders in found.items() if both[0] == r]
                self.assertEqual(rounds_count(n, r), sum(due))
                for k in range(21):
                    self.assertEqual(both_count(n, r, k), len(found.get((r, k), [])))

    def test_none_at_its_own_place(self):
        for n in range(1, 8):
            found = [len(drops_found(order)) for order in all_orders(n) if not own_places(order)]
            for k in range(21):
                self.assertEqual(none_count(n, k), found.count(k))

    def test_told_ones(self):
        self.assertEqual([rounds_count(4, r) for r in range(6)], [0, 6, 11, 6, 1, 0])
        self.assertEqual([none_count(4, k) for k in range(6)], [0, 1, 7, 1, 0, 0])
        self.assertEqual(rounds_count(1, 1), 1)
        self.assertEqual(rounds_count(1, 0), 0)
        self.assertEqual(rounds_count(1, 20), 0)
        self.assertEqual(both_count(1, 1, 0), 1)
        self.assertEqual(both_count(1, 1, 1), 0)
        self.assertEqual(none_count(1, 0), 0)
        self.assertEqual(none_count(2, 1), 1)

    def test_rounds_of_twenty(self):
        self.assertEqual(rounds_count(20, 0), 0)
        self.assertEqual(rounds_count(20, 1), math.factorial(19))
        self.assertEqual(rounds_count(20, 19), math.comb(20, 2))
        self.assertEqual(rounds_count(20, 20), 1)
        # The numbers by powers of x, x and 1, and so on, up to x and 19, multiplied.
        numbers = [1]
        for added in range(20):
            numbers = [added * same + lower for same, lower in zip(numbers + [0], [0] + numbers)]
        self.assertEqual([rounds_count(20, r) for r in range(21)], numbers)

    def test_both_of_twenty(self):
        self.assertEqual(both_count(20, 20, 0), 1)
        self.assertEqual(both_count(20, 20, 1), 0)
        self.assertEqual(both_count(20, 19, 1), math.comb(20, 2))
        # Of one round, the greatest place left out: as many as orders of 19, by falls.
        for k in range(1, 21):
            self.assertEqual(both_count(20, 1, k), number_at(19, k - 1))
        self.assertEqual(both_count(20, 1, 0), 0)
        for r in range(21):
            self.assertEqual(sum([both_count(20, r, k) for k in range(21)]), rounds_count(20, r))

    def test_none_of_twenty(self):
        for n in (19, 20):
            # All orders, less those with one number at its own place, and so on.
            for k in range(21):
                parts = [(-1) ** own * math.comb(n, own) * number_at(n - own, k) for own in range(n)]
                last = (-1) ** n if k == 0 else 0
                self.assertEqual(none_count(n, k), sum(parts) + last)
        self.assertEqual(sum([none_count(20, k) for k in range(21)]), 895014631192902121)

    def test_beyond_n(self):
        for n in range(1, 21):
            for beyond in range(n, 21):
                self.assertEqual(none_count(n, beyond), 0)
                self.assertEqual(both_count(n, 1, beyond), 0)
                self.assertEqual(both_count(n, n, beyond), 0)
                if beyond > n:
                    self.assertEqual(rounds_count(n, beyond), 0)
                    self.assertEqual(both_count(n, beyond, 0), 0)
            self.assertEqual(rounds_count(n, n), 1)
            self.assertEqual(rounds_count(n, 0), 0)
            self.assertEqual(both_count(n, 0, 0), 0)
            self.assertEqual(both_count(n, n, 0), 1)
            self.assertEqual(none_count(n, 0), 0)

    def test_kinds(self):
        for n, r, k in ((1, 1, 0), (4, 2, 20), (20, 7, 9)):
            self.assertIs(type(rounds_count(n, r)), int)
            self.assertIs(type(both_count(n, r, k)), int)
            self.assertIs(type(none_count(n, k)), int)


class TestBothAll(Asking):
    def test_all_orders_gone_through(self):
        for n in range(1, 8):
            found = orders_by_both(n)
            for r in range(21):
                for k in range(21):
                    due = found.get((r, k), [])
                    if len(due) > 300:
                        self.assert_too_great(len(due), 300, both_all, n, r, k)
                    else:
                        self.assertEqual(both_all(n, r, k), due)

    def test_told_lists(self):
        self.assertEqual(both_all(1, 1, 0), [(0,)])
        self.assertEqual(both_all(1, 1, 1), [])
        self.assertEqual(both_all(1, 0, 0), [])
        self.assertEqual(both_all(3, 1, 1), [(1, 2, 0)])
        self.assertEqual(both_all(3, 2, 1), [(0, 2, 1), (1, 0, 2), (2, 1, 0)])
        self.assertEqual(both_all(7, 7, 0), [rising(7)])
        self.assertEqual(both_all(7, 20, 20), [])

    def test_three_hundred_or_fewer_are_told(self):
        self.assertEqual(len(both_all(7, 2, 2)), 238)
        self.assert_too_great(301, 300, both_all, 7, 3, 4)
        self.assert_too_great(302, 300, both_all, 7, 1, 3)

    def test_kinds(self):
        for n, r, k in ((1, 1, 0), (3, 2, 1), (7, 6, 1)):
            self.assertIs(type(both_all(n, r, k)), list)
            for order in both_all(n, r, k):
                self.assertIs(order_good(order), True)


class TestSo(Asking):
    """What [7.5] says behind "So"."""

    def test_lifts_drops_and_own_places_are_all(self):
        for order in many_orders():
            together = len(lifts_of(order)) + len(drops_of(order)) + len(own_places(order))
            self.assertEqual(together, len(order))

    def test_the_back_has_its_lifts_where_drops_end(self):
        for order in many_orders():
            ends = tuple(sorted([order[place] for place in drops_of(order)]))
            self.assertEqual(lifts_of(back(order)), ends)

    def test_over_all_rounds_as_many_as_by_falls(self):
        for n in range(1, 21):
            for k in range(21):
                together = sum([both_count(n, r, k) for r in range(21)])
                self.assertEqual(together, number_at(n, k))


class TestOwn(Asking):
    """[0.2], where no refusal is due."""

    def test_lists_told_are_the_asker_s_own(self):
        for order in ((0,), (3, 1, 0, 2), falling(20)):
            self.assert_own(rounds_of, order)
        self.assert_own(both_all, 1, 1, 0)
        self.assert_own(both_all, 4, 2, 2)
        empty = both_all(3, 3, 3)
        empty.append((0,))
        self.assertEqual(both_all(3, 3, 3), [])

    def test_same_question_same_answer(self):
        def answers():
            return [
                (rounds_of(order), lifts_of(order), drops_of(order), laid(order), taken_up(order))
                for order in ((0,), (3, 1, 0, 2), falling(20))
            ] + [rounds_count(20, 7), both_count(20, 7, 9), none_count(20, 9), both_all(4, 2, 2)]
        first = answers()
        with self.assertRaises(ValueError):
            both_all(7, 3, 4)
        with self.assertRaises(ValueError):
            laid((1,))
        self.assertEqual(answers(), first)


if __name__ == "__main__":
    unittest.main()
