"""[4.1] to [4.5], [0.4]: what is refused where falls are told."""

import unittest

from fallcounts.errors import NoNumber, NoRow, NoSet
from fallcounts.sets import (
    first_with,
    just_all,
    just_at,
    just_many,
    last_with,
    most_sets,
    set_by,
    set_good,
    sets_of,
    sizes_of,
    within_many,
)

from helper import Asking, nested, no_numbers, rising, things_no_tuples

OF_A_SET = (just_many, within_many, just_all, first_with, last_with, sizes_of)


def no_sets(n):
    """Things of whatever kind that are no sets of n."""
    found = things_no_tuples() + [[0], [0, 1], list(range(n - 1)), {0: 0}]
    wrongs = (-1, n - 1, n, 10 ** 39, -(10 ** 39), True, False, None, "0", "", [], [0], {}, {0: 0}, (), (0,))
    for wrong in wrongs:
        found += [(wrong,), rising(n - 1) + (wrong,), (wrong,) + rising(n - 1), (0, wrong)]
    found += [(0, 0), (1, 0), (0, 1, 1), (0, 2, 1), rising(n), rising(12), rising(13), rising(1000)]
    found += [(nested(0, 7),), ((0, 1),), (rising(n - 1),)]
    if n > 2:
        found += [rising(n - 1)[::-1], (n - 2, n - 3), (n - 2, n - 2), rising(n - 1) + (n - 2,), (0,) + rising(n - 1)]
    return found


def no_sizes():
    """Things of whatever kind that set_by does not take."""
    found = things_no_tuples() + [(), [1], [1, 1], [12], {1: 1}, "1", "1 1", 1, 12]
    wrongs = (0, -1, -2, -(10 ** 39), 10 ** 39, 13, True, False, None, "1", "", [], [1], {}, {1: 1}, (), (1,))
    for wrong in wrongs:
        found += [(wrong,), (1, wrong), (wrong, 1), (1, wrong, 1), (2, 3, wrong)]
    found += [(14,), (12, 1), (1, 12), (6, 7), (7, 6), (1,) * 13, (4, 4, 5), (1,) * 1000]
    found += [(13, -1), (-1, 13), (14, -2), (12, 0), (0, 12), (5, -3, 5)]
    found += [(nested(1, 7),), ((1, 1),), ((12,),)]
    return found


class TestSetGood(Asking):
    def test_what_is_no_set(self):
        for n in (1, 2, 3, 7, 12):
            for thing in no_sets(n):
                with self.subTest(n=n, thing=repr(thing)[:90]):
                    kept = repr(thing)
                    self.assertIs(set_good(n, thing), False)
                    self.assertEqual(repr(thing), kept)

    def test_places_up_to_n_less_two(self):
        for n in range(2, 13):
            self.assertIs(set_good(n, (n - 2,)), True)
            self.assertIs(set_good(n, (n - 1,)), False)
            self.assertIs(set_good(n, (0,)), True)
            self.assertIs(set_good(n, (-1,)), False)
        self.assertIs(set_good(1, (0,)), False)

    def test_no_n(self):
        for thing in no_numbers(1, 12):
            for some in ((), (0,), None, [0]):
                self.assert_refused(NoNumber, set_good, thing, some)


class TestRefused(Asking):
    def test_no_n(self):
        for thing in no_numbers(1, 12):
            for ask in OF_A_SET:
                self.assert_refused(NoNumber, ask, thing, ())
            self.assert_refused(NoNumber, just_at, thing, (), 0)
            self.assert_refused(NoNumber, sets_of, thing, 0)

    def test_no_n_of_most_sets(self):
        for thing in no_numbers(1, 10):
            self.assert_refused(NoNumber, most_sets, thing)
        most_sets(1)
        most_sets(10)

    def test_no_k(self):
        for thing in no_numbers(0, 12):
            for n in (1, 12):
                self.assert_refused(NoNumber, sets_of, n, thing)

    def test_no_set(self):
        for n in (1, 2, 3, 7, 12):
            for thing in no_sets(n):
                for ask in OF_A_SET:
                    self.assert_refused(NoSet, ask, n, thing)
                self.assert_refused(NoSet, just_at, n, thing, 0)

    def test_no_number_of_an_order(self):
        for n, some, many in ((1, (), 1), (3, (0,), 2), (5, (1, 3), 16), (12, (5,), 923), (12, (), 1)):
            for thing in no_numbers(0, many - 1):
                self.assert_refused(NoNumber, just_at, n, some, thing)
            just_at(n, some, many - 1)

    def test_no_sizes(self):
        for thing in no_sizes():
            self.assert_refused(NoRow, set_by, thing)

    def test_sizes_up_to_twelve_together(self):
        for sizes in ((12,), (1, 11), (11, 1), (6, 6), (1,) * 12, (1,)):
            self.assertEqual(set_by(sizes)[0], sum(sizes))


class TestFirstLookedAt(Asking):
    """What stands further to the left is looked at first."""

    def test_no_n_ahead_of_no_set(self):
        for thing in no_sets(3):
            for n in (0, 13, True, None, "3"):
                for ask in OF_A_SET:
                    self.assert_refused(NoNumber, ask, n, thing)
                self.assert_refused(NoNumber, just_at, n, thing, 0)
                self.assert_refused(NoNumber, just_at, n, thing, -1)

    def test_no_set_ahead_of_no_number(self):
        for thing in no_sets(3):
            for number in (-1, 10 ** 39, True, None, "0", [0], (0,)):
                self.assert_refused(NoSet, just_at, 3, thing, number)

    def test_too_great_behind_all_else(self):
        for thing in no_sets(12):
            self.assert_refused(NoSet, just_all, 12, thing)
        for n in no_numbers(1, 12):
            self.assert_refused(NoNumber, just_all, n, (1, 3, 5, 7, 9))

    def test_a_refusal_changes_no_later_answer(self):
        before = [just_all(4, some) for some in ((), (0,), (1,), (0, 2))]
        for thing in no_sets(4):
            with self.assertRaises(NoSet):
                just_all(4, thing)
        with self.assertRaises(ValueError):
            just_all(12, (1, 3, 5, 7, 9))
        with self.assertRaises(ValueError):
            just_at(4, (0,), 3)
        self.assertEqual([just_all(4, some) for some in ((), (0,), (1,), (0, 2))], before)


if __name__ == "__main__":
    unittest.main()
