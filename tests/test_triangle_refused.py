"""[2.1], [2.2], [2.4], [0.4]: what the triangle refuses, and what is no row."""

import unittest

from fallcounts.errors import NoNumber, NoRow
from fallcounts.triangle import (
    count_of,
    count_parts,
    greatest_at,
    mean_falls,
    row_before,
    row_good,
    row_next,
    row_of,
    spread_of,
    upto_count,
)

from helper import Asking, nested, no_numbers, no_orders

OF_N = (row_of, mean_falls, spread_of, greatest_at)
OF_N_AND_K = (count_of, upto_count, count_parts)


def row_of_thirty_one():
    """The row that would come behind that of 30."""
    row = [0] + row_of(30) + [0]
    return [(k + 1) * row[k + 1] + (31 - k) * row[k] for k in range(31)]


def rows_with_one_exchanged():
    found = []
    for n in (1, 2, 3, 4, 7, 29, 30):
        row = row_of(n)
        for at in range(n):
            number = row[at]
            wrong = [number + 1, number - 1, -number, 0, True, False, None, str(number), ""]
            wrong += [[number], (number,), {}, [], {number: number}, nested(number, 6)]
            found += [row[:at] + [thing] + row[at + 1:] for thing in wrong]
    return found


def rows_of_another_length():
    found = [[], [0], [1, 0], [0, 1]]
    for n in (1, 2, 3, 4, 7, 29, 30):
        row = row_of(n)
        found += [row + [0], [0] + row, row + [2], row + [-1], row + [None]]
        found += [row[:-1] + [True], [True] + row[1:]]
    for n in (3, 4, 7, 29, 30):
        row = row_of(n)
        found += [row + [1], [1] + row, row[:-1], row[1:], row[:2] + row[3:]]
    return found


def no_rows():
    """Things of whatever kind that are no rows of the triangle."""
    # [1] and such rows are no orders, but rows they are.
    others = [thing for thing in no_orders() if thing not in ([1], [1, 1])]
    tuples = [tuple(row_of(n)) for n in (1, 2, 3, 30)]
    texts = ["1", "1 1", "[1]", "1 4 1"]
    dicts = [dict(enumerate(row_of(n))) for n in (1, 3)]
    lists = [[row_of(3)], [[1]], [(1,)], [1] * 3, [1] * 1000, list(range(30)), [row_of(1), row_of(2)]]
    turned = [[1, 11, 4, 1], [1, 120, 2416, 1191, 1191, 120, 1], sorted(row_of(5)), sorted(row_of(6))[::-1]]
    beyond = [row_of_thirty_one(), row_of_thirty_one()[:30]]
    found = others + tuples + texts + dicts + lists + turned + beyond
    return found + rows_with_one_exchanged() + rows_of_another_length()


class TestRowGood(Asking):
    def test_what_is_no_row(self):
        for thing in no_rows():
            with self.subTest(thing=repr(thing)[:90]):
                kept = repr(thing)
                self.assertIs(row_good(thing), False)
                self.assertEqual(repr(thing), kept)

    def test_a_truth_is_no_number(self):
        for thing in ([True], [True, 1], [1, True], [True, True], [True, 4, 1], [1, 4, True]):
            self.assertIs(row_good(thing), False)

    def test_rows_of_thirty_and_thirty_one(self):
        self.assertIs(row_good(row_of(30)), True)
        self.assertIs(row_good(row_of_thirty_one()), False)


class TestRefused(Asking):
    def test_no_n(self):
        for ask in OF_N:
            for thing in no_numbers(1, 30):
                self.assert_refused(NoNumber, ask, thing)

    def test_no_n_beside_a_k(self):
        for ask in OF_N_AND_K:
            for thing in no_numbers(1, 30):
                for k in (0, 30):
                    self.assert_refused(NoNumber, ask, thing, k)

    def test_no_k(self):
        for ask in OF_N_AND_K:
            for thing in no_numbers(0, 30):
                for n in (1, 30):
                    self.assert_refused(NoNumber, ask, n, thing)

    def test_neither_n_nor_k(self):
        for ask in OF_N_AND_K:
            for thing in no_numbers(0, 30):
                self.assert_refused(NoNumber, ask, thing, thing)

    def test_bounds_are_taken(self):
        for ask in OF_N:
            ask(1)
            ask(30)
        for ask in OF_N_AND_K:
            for n, k in ((1, 0), (1, 30), (30, 0), (30, 30)):
                ask(n, k)

    def test_no_row(self):
        for ask in (row_next, row_before):
            for thing in no_rows():
                self.assert_refused(NoRow, ask, thing)

    def test_nothing_ahead_of_the_row_of_one(self):
        self.assert_refused(NoRow, row_before, [1])
        self.assert_refused(NoRow, row_before, row_of(1))

    def test_nothing_behind_the_row_of_thirty(self):
        self.assert_too_great(31, 30, row_next, row_of(30))

    def test_too_great_comes_behind_no_row(self):
        row = row_of(30)
        for at in range(30):
            for wrong in (row[at] + 1, row[at] - 1, None, True, [row[at]]):
                thing = row[:at] + [wrong] + row[at + 1:]
                self.assert_refused(NoRow, row_next, thing)
        self.assert_refused(NoRow, row_next, row_of_thirty_one())
        self.assert_refused(NoRow, row_next, tuple(row))

    def test_a_refusal_changes_no_later_answer(self):
        before = [row_of(n) for n in range(1, 31)]
        for thing in no_rows():
            with self.assertRaises(NoRow):
                row_next(thing)
        with self.assertRaises(ValueError):
            row_next(row_of(30))
        with self.assertRaises(ValueError):
            row_before([1])
        self.assertEqual([row_of(n) for n in range(1, 31)], before)


if __name__ == "__main__":
    unittest.main()
