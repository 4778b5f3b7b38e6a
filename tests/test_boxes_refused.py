"""[6.1] to [6.4], [0.4]: what boxes and cuts refuse."""

import unittest

from fallcounts.boxes import (
    cut_share,
    cut_upto,
    led,
    led_back,
    slab_all,
    slab_many,
    slab_of,
    wraps_of,
)
from fallcounts.errors import NoNumber, NoRow

from helper import Asking, nested, no_numbers, rising, things_no_tuples

OF_A_CELL = (slab_of, led, led_back, wraps_of)
OF_SLABS = (slab_many, slab_all)


def no_cells(m):
    """Things of whatever kind that are no cells of m."""
    found = things_no_tuples() + [(), [0], [0, 0], list(range(m)), {0: 0}, "0", "0 0", 0]
    wrongs = (m, m + 1, -1, -2, 10 ** 39, -(10 ** 39), True, False, None, "0", "", [], [0], {}, {0: 0}, (), (0,))
    for wrong in wrongs:
        found += [(wrong,), (0, wrong), (wrong, 0), (0, wrong, 0), (0,) * 7 + (wrong,), (wrong,) + (m - 1,) * 7]
    found += [(0,) * 9, (m - 1,) * 9, (0,) * 10, (0,) * 1000, (nested(0, 7),), ((0, 0),), ((0,), (0,))]
    return found


def no_uptos(n):
    """Things of whatever kind that are no shares from 0 to n with a bottom up to 1000."""
    found = things_no_tuples() + [0, 1, -1, n, 1000, 10 ** 39]
    # below 0, above n
    found += [(-1, 1), (-1, 2), (-1, 1000), (n + 1, 1), (2 * n + 1, 2), (1000 * n + 1, 1000), (10 ** 39, 1)]
    # not in least terms
    found += [(0, 2), (0, 1000), (2, 2), (2, 4), (500, 1000), (1000, 1000), (2 * n, 2), (3, 6), (-2, -4)]
    # a bottom of 0, below nought, above 1000
    found += [(0, 0), (1, 0), (n, 0), (1, -1), (0, -1), (-1, -1), (-1, -2), (1, -2), (1, 1001), (1, 1002)]
    found += [(1000, 1001), (1001, 1002), (0, 1001), (1, 10 ** 39), (1, -(10 ** 39))]
    # another many, a list
    found += [(), (0,), (1,), (0, 1, 1), (1, 1, 1), (1, 2, 3), [0, 1], [1, 1], [1, 2], {0: 1}, {0: 0, 1: 1}, "0 1", "01"]
    for wrong in (True, False, None, "1", "", [], [1], {}, {1: 1}, (), (1,), (1, 1), nested(1, 7)):
        found += [(wrong, 1), (wrong, 2), (0, wrong), (1, wrong), (wrong, wrong)]
    return found


class TestRefused(Asking):
    def test_no_m_of_a_cell(self):
        for ask in OF_A_CELL:
            for thing in no_numbers(1, 20):
                for cell in ((0,), (0,) * 8):
                    self.assert_refused(NoNumber, ask, thing, cell)

    def test_no_cell(self):
        for ask in OF_A_CELL:
            for m in (1, 2, 7, 20):
                for thing in no_cells(m):
                    self.assert_refused(NoRow, ask, m, thing)

    def test_bounds_of_a_cell_are_taken(self):
        for ask in OF_A_CELL:
            for m in (1, 20):
                for many in (1, 8):
                    ask(m, (0,) * many)
                    ask(m, (m - 1,) * many)

    def test_no_number_of_slabs(self):
        for ask in OF_SLABS:
            for thing in no_numbers(1, 8):
                self.assert_refused(NoNumber, ask, thing, 1, 0)
                self.assert_refused(NoNumber, ask, thing, 20, 8)
            for thing in no_numbers(1, 20):
                self.assert_refused(NoNumber, ask, 1, thing, 0)
                self.assert_refused(NoNumber, ask, 8, thing, 8)
            for thing in no_numbers(0, 8):
                self.assert_refused(NoNumber, ask, 1, 1, thing)
                self.assert_refused(NoNumber, ask, 8, 20, thing)

    def test_bounds_of_slabs_are_taken(self):
        for ask in OF_SLABS:
            for n, m, k in ((1, 1, 0), (8, 1, 0), (1, 20, 0), (8, 20, 8), (1, 1, 8)):
                ask(n, m, k)

    def test_no_sides(self):
        for thing in no_numbers(1, 12):
            self.assert_refused(NoNumber, cut_upto, thing, (0, 1))
            self.assert_refused(NoNumber, cut_upto, thing, (1, 2))
            for k in (0, 12):
                self.assert_refused(NoNumber, cut_share, thing, k)

    def test_no_k_of_a_cut(self):
        for thing in no_numbers(0, 12):
            for n in (1, 12):
                self.assert_refused(NoNumber, cut_share, n, thing)

    def test_no_share(self):
        for n in (1, 2, 5, 12):
            for thing in no_uptos(n):
                self.assert_refused(NoNumber, cut_upto, n, thing)

    def test_bounds_of_cuts_are_taken(self):
        for n in (1, 12):
            for upto in ((0, 1), (n, 1), (1, 1000), (1000 * n - 1, 1000), (1, 999)):
                cut_upto(n, upto)
            for k in (0, 12):
                cut_share(n, k)


class TestFirstLookedAt(Asking):
    """What stands further to the left is looked at first."""

    def test_no_m_ahead_of_no_cell(self):
        for ask in OF_A_CELL:
            for m in (0, 21, -1, True, None, "5", [5], (5,)):
                for thing in no_cells(5):
                    self.assert_refused(NoNumber, ask, m, thing)

    def test_several_numbers_wrong(self):
        for thing in no_numbers(0, 20):
            for ask in OF_SLABS:
                self.assert_refused(NoNumber, ask, thing, thing, thing)
                self.assert_refused(NoNumber, ask, thing, thing, 0)
                self.assert_refused(NoNumber, ask, 1, thing, thing)
            self.assert_refused(NoNumber, cut_share, thing, thing)
            self.assert_refused(NoNumber, cut_upto, thing, thing)

    def test_too_great_behind_all_else(self):
        for thing in no_numbers(0, 20):
            # Were it not for the wrong one, each would be too great.
            self.assert_refused(NoNumber, slab_all, thing, 20, 4)
            self.assert_refused(NoNumber, slab_all, 8, thing, 4)
            self.assert_refused(NoNumber, slab_all, 8, 20, thing)
        self.assert_too_great(slab_many(8, 20, 4), 300, slab_all, 8, 20, 4)

    def test_a_refusal_changes_no_later_answer(self):
        def answers():
            return [led(5, (3, 4)), led_back(5, (3, 4)), slab_all(3, 4, 1), cut_upto(3, (3, 2)), cut_share(3, 1)]
        before = answers()
        for thing in no_cells(5):
            with self.assertRaises(NoRow):
                led(5, thing)
        for thing in no_uptos(3):
            with self.assertRaises(NoNumber):
                cut_upto(3, thing)
        with self.assertRaises(ValueError):
            slab_all(8, 20, 4)
        self.assertEqual(answers(), before)

    def test_a_cell_is_one_of_its_own_m_alone(self):
        cell = rising(8)
        self.assertEqual(led_back(8, cell), (0,) + (1,) * 7)
        for ask in OF_A_CELL:
            self.assert_refused(NoRow, ask, 7, cell)


if __name__ == "__main__":
    unittest.main()
