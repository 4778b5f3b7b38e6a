"""[9.1] to [9.5]: put in and drawn."""

import itertools
import math
import unittest

from fallcounts import drawn as module
from fallcounts.drawn import (
    code_good,
    code_of,
    drawn,
    drawn_number,
    new_spots,
    order_by,
    path_good,
    path_many,
    path_of,
    put_in,
    still_spots,
)
from fallcounts.orders import order_good

from helper import (
    Asking,
    all_orders,
    drawn_orders,
    falling,
    falls_seen,
    many_orders,
    number_at,
    orders_by_many,
    orders_of,
    rising,
)


def put(order, spot):
    numbers = list(order)
    numbers.insert(spot, len(order))
    return tuple(numbers)


def spots_found(order, more):
    """The spots at which the greatest number makes so many falls more."""
    falls = len(falls_seen(order)) + more
    return tuple([spot for spot in range(len(order) + 1) if len(falls_seen(put(order, spot))) == falls])


def drawn_list(n, k):
    """All orders of n with k falls in the order in which they are drawn."""
    if n == 1:
        return [(0,)] if k == 0 else []
    kept = [put(order, spot) for order in drawn_list(n - 1, k) for spot in spots_found(order, 0)]
    return kept + [put(order, spot) for order in drawn_list(n - 1, k - 1) for spot in spots_found(order, 1)]


def left_out(order, most):
    return [number for number in order if number <= most]


def codes(n):
    """All codes of n numbers."""
    return list(itertools.product(*[range(place + 1) for place in range(n)]))


def paths(n):
    """All paths of n numbers."""
    found = []
    for steps in itertools.product((0, 1), repeat=n - 1):
        found.append(tuple(itertools.accumulate((0,) + steps)))
    return found


class TestInterface(Asking):
    def test_names_and_arguments(self):
        self.assert_arguments(module, {
            "put_in": ["order", "spot"],
            "still_spots": ["order"],
            "new_spots": ["order"],
            "code_good": ["thing"],
            "code_of": ["order"],
            "order_by": ["code"],
            "path_good": ["thing"],
            "path_of": ["order"],
            "path_many": ["path"],
            "drawn": ["n", "k", "number"],
            "drawn_number": ["order"],
        })


class TestSpots(Asking):
    def test_put_in_at_each_spot(self):
        for order in many_orders():
            if len(order) < 20:
                for spot in range(len(order) + 1):
                    answer = put_in(order, spot)
                    self.assertEqual(answer, put(order, spot))
                    self.assertIs(order_good(answer), True)

    def test_told_ones(self):
        self.assertEqual(put_in((0,), 0), (1, 0))
        self.assertEqual(put_in((0,), 1), (0, 1))
        self.assertEqual(put_in((1, 0), 1), (1, 2, 0))
        self.assertEqual(put_in(rising(19), 19), rising(20))
        self.assertEqual(still_spots((0,)), (1,))
        self.assertEqual(new_spots((0,)), (0,))
        self.assertEqual(still_spots((2, 0, 1)), (1, 3))
        self.assertEqual(new_spots((2, 0, 1)), (0, 2))
        self.assertEqual(still_spots(falling(4)), (1, 2, 3, 4))
        self.assertEqual(new_spots(falling(4)), (0,))

    def test_falls_behind_each_spot(self):
        for order in many_orders():
            self.assertEqual(still_spots(order), spots_found(order, 0))
            self.assertEqual(new_spots(order), spots_found(order, 1))

    def test_each_spot_is_one_or_the_other(self):
        for order in many_orders():
            both = still_spots(order) + new_spots(order)
            self.assertEqual(sorted(both), list(range(len(order) + 1)))

    def test_spots_of_twenty_are_told(self):
        self.assertEqual(still_spots(rising(20)), (20,))
        self.assertEqual(new_spots(rising(20)), rising(20))
        self.assertEqual(still_spots(falling(20)), rising(21)[1:])
        self.assertEqual(new_spots(falling(20)), (0,))

    def test_nothing_is_put_into_twenty(self):
        for order in orders_of(20):
            for spot in (0, 1, 19, 20):
                self.assert_too_great(21, 20, put_in, order, spot)

    def test_kinds(self):
        for order in ((0,), (2, 0, 1), falling(19)):
            self.assert_numbers(tuple, put_in(order, 0))
            self.assert_numbers(tuple, still_spots(order))
            self.assert_numbers(tuple, new_spots(order))


class TestCodes(Asking):
    def test_told_ones(self):
        told = (
            ((0,), (0,)),
            ((0, 1), (0, 1)),
            ((1, 0), (0, 0)),
            ((2, 0, 1), (0, 1, 0)),
            ((3, 1, 0, 2), (0, 0, 2, 0)),
            (rising(20), rising(20)),
            (falling(20), (0,) * 20),
        )
        for order, code in told:
            self.assertEqual(code_of(order), code)
            self.assertEqual(order_by(code), order)
            self.assertIs(code_good(code), True)

    def test_by_numbers_left_out(self):
        for order in many_orders():
            due = tuple([left_out(order, number).index(number) for number in range(len(order))])
            self.assertEqual(code_of(order), due)

    def test_each_of_the_other(self):
        for order in many_orders():
            self.assertIs(code_good(code_of(order)), True)
            self.assertEqual(order_by(code_of(order)), order)
        for n in range(1, 8):
            found = codes(n)
            self.assertEqual(len(found), math.factorial(n))
            for code in found:
                self.assertIs(code_good(code), True)
                self.assertEqual(code_of(order_by(code)), code)

    def test_kinds(self):
        for order in ((0,), (2, 0, 1), falling(20)):
            self.assert_numbers(tuple, code_of(order))
            self.assert_numbers(tuple, order_by(code_of(order)))


class TestPaths(Asking):
    def test_told_ones(self):
        told = (
            # order, its path, how many have it
            ((0,), (0,), 1),
            ((0, 1), (0, 0), 1),
            ((1, 0), (0, 1), 1),
            ((2, 0, 1), (0, 0, 1), 2),
            ((1, 2, 0), (0, 1, 1), 2),
            ((2, 1, 0), (0, 1, 2), 1),
            (rising(20), (0,) * 20, 1),
            (falling(20), rising(20), 1),
        )
        for order, path, many in told:
            self.assertEqual(path_of(order), path)
            self.assertIs(path_good(path), True)
            self.assertEqual(path_many(path), many)

    def test_by_numbers_left_out(self):
        for order in many_orders():
            due = tuple([len(falls_seen(left_out(order, number))) for number in range(len(order))])
            self.assertEqual(path_of(order), due)
            self.assertIs(path_good(path_of(order)), True)

    def test_all_orders_gone_through(self):
        for n in range(1, 9):
            found = {}
            for order in all_orders(n):
                path = path_of(order)
                found[path] = found.get(path, 0) + 1
            self.assertEqual(sorted(found), sorted(paths(n)))
            for path in paths(n):
                self.assertIs(path_good(path), True)
                self.assertEqual(path_many(path), found[path])

    def test_paths_of_twenty(self):
        # One fall is made by the number at a place, and each number behind has two spots to keep it.
        for place in range(1, 20):
            path = (0,) * place + (1,) * (20 - place)
            self.assertEqual(path_many(path), place * 2 ** (19 - place))
        # Each second number makes a fall: the j-th of these has j and 1 spots, and so has the number behind.
        path = tuple([place // 2 for place in range(20)])
        self.assertEqual(path_many(path), math.factorial(10) ** 2)

    def test_kinds(self):
        for order in ((0,), (2, 0, 1), falling(20)):
            self.assert_numbers(tuple, path_of(order))
            self.assertIs(type(path_many(path_of(order))), int)


class TestDrawn(Asking):
    def test_told_ones(self):
        self.assertEqual(drawn(1, 0, 0), (0,))
        self.assertEqual([drawn(2, k, 0) for k in (0, 1)], [(0, 1), (1, 0)])
        self.assertEqual([drawn(3, 1, number) for number in range(4)], [
            (1, 2, 0), (1, 0, 2), (2, 0, 1), (0, 2, 1),
        ])
        self.assertEqual(drawn(20, 0, 0), rising(20))
        self.assertEqual(drawn(20, 19, 0), falling(20))

    def test_all_of_small_n(self):
        for n in range(1, 8):
            found = orders_by_many(n)
            for k in range(n):
                due = drawn_list(n, k)
                orders = [drawn(n, k, number) for number in range(len(found[k]))]
                self.assertEqual(orders, due)
                self.assertEqual(sorted(orders), found[k])
                self.assertEqual([drawn_number(order) for order in orders], list(range(len(orders))))

    def test_of_twenty(self):
        for n in (12, 19, 20):
            for k in range(n):
                many = number_at(n, k)
                numbers = sorted({many * part // 13 for part in range(13)} | {many - 1})
                orders = [drawn(n, k, number) for number in numbers]
                self.assertEqual(len(set(orders)), len(numbers))
                for number, order in zip(numbers, orders):
                    self.assertIs(order_good(order), True)
                    self.assertEqual(len(order), n)
                    self.assertEqual(len(falls_seen(order)), k)
                    self.assertEqual(drawn_number(order), number)

    def test_first_and_last(self):
        # By 0 the number of falls is reached as early as can be, at the first still spot from there on.
        for n in range(2, 21):
            self.assertEqual(drawn(n, 1, 0), rising(n)[1:] + (0,))
            # By the last one the fall is made by the last number, at its last new spot.
            self.assertEqual(drawn(n, 1, number_at(n, 1) - 1), rising(n - 2) + (n - 1, n - 2))

    def test_each_of_the_other(self):
        for order in many_orders():
            k = len(falls_seen(order))
            number = drawn_number(order)
            self.assertIs(0 <= number < number_at(len(order), k), True)
            self.assertEqual(drawn(len(order), k, number), order)

    def test_kinds(self):
        for n, k in ((1, 0), (3, 1), (20, 9)):
            self.assert_numbers(tuple, drawn(n, k, 0))
            self.assertIs(type(drawn_number(drawn(n, k, 0))), int)


class TestSo(Asking):
    """What [9.5] says, where no test above has it."""

    def test_a_path_ends_with_the_falls(self):
        for order in many_orders():
            self.assertEqual(path_of(order)[-1], len(falls_seen(order)))

    def test_over_all_paths(self):
        for n in range(1, 13):
            together = [0] * n
            for path in paths(n):
                together[path[-1]] += path_many(path)
            self.assertEqual(together, [number_at(n, k) for k in range(n)])


class TestOwn(Asking):
    """[0.2], where no refusal is due."""

    def test_same_question_same_answer(self):
        orders = [(0,), (3, 1, 0, 2)] + drawn_orders(19, 3)

        def answers():
            return [
                (put_in(order, 1), still_spots(order), new_spots(order), code_of(order), path_of(order),
                 order_by(code_of(order)), path_many(path_of(order)), drawn_number(order))
                for order in orders
            ] + [drawn(20, k, 0) for k in range(20)]
        first = answers()
        with self.assertRaises(ValueError):
            put_in(rising(20), 0)
        with self.assertRaises(ValueError):
            drawn(5, 5, 0)
        self.assertEqual(answers(), first)


if __name__ == "__main__":
    unittest.main()
