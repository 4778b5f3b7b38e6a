"""[9.1] to [9.4], [0.4]: what is refused where orders are built up, and what is no code and no path."""

import unittest

from fallcounts.drawn import (
    code_good,
    code_of,
    drawn,
    drawn_number,
    new_spots,
    order_by,
    path_good,
    path_many,
    path_of,
    put_in,
    still_spots,
)
from fallcounts.errors import NoNumber, NoOrder, NoRow

from helper import Asking, falling, nested, no_numbers, no_orders, number_at, rising, things_no_tuples

OF_AN_ORDER = (still_spots, new_spots, code_of, path_of, drawn_number)
WRONG_NUMBERS = (
    -1, -2, 20, 21, 10 ** 39, -(10 ** 39), True, False, None, "0", "1", "", [], [0], [1], {}, {0: 0}, (), (0,),
)


def no_tuples_of_numbers():
    """Things that are neither codes nor paths, by their kind, their length or a number in them."""
    found = things_no_tuples() + [(), (0,) * 21, rising(21), (0,) * 22, (0,) * 1000, [0, 0], [0, 1], {0: 0, 1: 1}]
    for wrong in WRONG_NUMBERS:
        found += [(wrong,), (0, wrong), (wrong, 0), (wrong, 1), (0, 1, wrong), (0, wrong, 1), (0,) * 19 + (wrong,)]
        found += [(wrong,) + (0,) * 19, (wrong,) + rising(20)[1:], rising(19) + (wrong,)]
    return found + [(nested(0, 7),), ((0, 0),), ((0,), (0,)), (0, (0, 1))]


def no_codes():
    """Things of whatever kind that are no codes."""
    found = no_tuples_of_numbers()
    for n in (1, 2, 3, 7, 20):
        for place in range(n):
            for code in ((0,) * n, rising(n)):
                found += [code[:place] + (wrong,) + code[place + 1:] for wrong in (place + 1, place + 2, -1, True)]
    return found + [(1,), (0, 2), (1, 0), falling(2), falling(20)]


def no_paths():
    """Things of whatever kind that are no paths."""
    found = no_tuples_of_numbers() + [(1,), (1, 1), (1, 2), (-1, 0), (2,), (0, 2), (0, 0, 2), (0, 1, 0), (0, 1, 3)]
    for n in (2, 3, 7, 20):
        for place in range(n):
            # The first number is not 0, a step of 2, or a step down.
            found.append((0,) * place + (2,) * (n - place))
            found.append((0,) * place + (-1,) * (n - place))
            path = rising(n)
            found.append(path[:place] + tuple([number + 1 for number in path[place:]]))
            if 0 < place < n - 1:
                found.append((0,) * place + (1,) + (0,) * (n - place - 1))
            if place > 1:
                found.append(path[:place] + (place - 2,) + path[place + 1:])
            found.append(path[:place] + (True,) + path[place + 1:])
    return found


class TestGood(Asking):
    def test_what_is_no_code(self):
        for thing in no_codes():
            with self.subTest(thing=repr(thing)[:90]):
                kept = repr(thing)
                self.assertIs(code_good(thing), False)
                self.assertEqual(repr(thing), kept)

    def test_what_is_no_path(self):
        for thing in no_paths():
            with self.subTest(thing=repr(thing)[:90]):
                kept = repr(thing)
                self.assertIs(path_good(thing), False)
                self.assertEqual(repr(thing), kept)

    def test_up_to_twenty(self):
        for good in (code_good, path_good):
            for n in range(1, 21):
                self.assertIs(good(rising(n)), True)
                self.assertIs(good((0,) * n), True)
            for n in (0, 21, 22):
                self.assertIs(good(rising(n)), False)
                self.assertIs(good((0,) * n), False)


class TestRefused(Asking):
    def test_no_order(self):
        for thing in no_orders():
            for ask in OF_AN_ORDER:
                self.assert_refused(NoOrder, ask, thing)
            for spot in (0, 1, 20):
                self.assert_refused(NoOrder, put_in, thing, spot)

    def test_no_spot(self):
        for n in (1, 2, 7, 19):
            for order in (rising(n), falling(n)):
                for thing in no_numbers(0, n):
                    self.assert_refused(NoNumber, put_in, order, thing)
                put_in(order, 0)
                put_in(order, n)

    def test_no_code(self):
        for thing in no_codes():
            self.assert_refused(NoRow, order_by, thing)

    def test_no_path(self):
        for thing in no_paths():
            self.assert_refused(NoRow, path_many, thing)

    def test_no_n(self):
        for thing in no_numbers(1, 20):
            for k in (0, 20):
                self.assert_refused(NoNumber, drawn, thing, k, 0)

    def test_no_k(self):
        for thing in no_numbers(0, 20):
            for n in (1, 20):
                self.assert_refused(NoNumber, drawn, n, thing, 0)

    def test_no_number(self):
        for n, k in ((1, 0), (2, 1), (3, 1), (7, 3), (20, 0), (20, 9), (20, 19)):
            many = number_at(n, k)
            for thing in no_numbers(0, many - 1):
                self.assert_refused(NoNumber, drawn, n, k, thing)
            drawn(n, k, 0)
            drawn(n, k, many - 1)

    def test_no_number_where_there_is_no_order(self):
        for n in range(1, 21):
            for k in range(n, 21):
                for number in (0, 1, -1):
                    self.assert_refused(NoNumber, drawn, n, k, number)


class TestFirstLookedAt(Asking):
    """What stands further to the left is looked at first; TooGreat comes behind all else."""

    def test_no_order_ahead_of_no_spot(self):
        for order in ((), (1,), [0], None, True, "0", rising(21), (0, True), ([0],)):
            for thing in no_numbers(0, 20):
                self.assert_refused(NoOrder, put_in, order, thing)

    def test_too_great_behind_no_spot(self):
        for order in (rising(20), falling(20)):
            for thing in no_numbers(0, 20):
                self.assert_refused(NoNumber, put_in, order, thing)
            self.assert_too_great(21, 20, put_in, order, 0)
            self.assert_too_great(21, 20, put_in, order, 20)

    def test_twenty_one_numbers_are_no_order(self):
        self.assert_refused(NoOrder, put_in, rising(21), 0)
        self.assert_refused(NoOrder, put_in, rising(21), 22)

    def test_several_wrong(self):
        for thing in no_numbers(0, 20):
            self.assert_refused(NoNumber, drawn, thing, thing, thing)
            self.assert_refused(NoNumber, drawn, 5, thing, thing)
            self.assert_refused(NoNumber, drawn, thing, 2, thing)

    def test_a_refusal_changes_no_later_answer(self):
        def answers():
            return [put_in((2, 0, 1), 1), order_by((0, 1, 0)), path_many((0, 0, 1)), drawn(9, 4, 1000)]
        before = answers()
        for thing in no_codes():
            with self.assertRaises(NoRow):
                order_by(thing)
        for thing in no_paths():
            with self.assertRaises(NoRow):
                path_many(thing)
        with self.assertRaises(ValueError):
            put_in(rising(20), 0)
        self.assertEqual(answers(), before)


if __name__ == "__main__":
    unittest.main()
