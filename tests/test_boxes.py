"""[6.1] to [6.5]: boxes and cuts."""

import fractions
import itertools
import math
import unittest

from fallcounts import boxes as module
from fallcounts.boxes import (
    cut_share,
    cut_upto,
    led,
    led_back,
    slab_all,
    slab_many,
    slab_of,
    wraps_of,
)

from helper import Asking, number_at, orders_by_many

SMALL = [(n, m) for n in range(1, 5) for m in range(1, 6)] + [(5, 3), (6, 2), (8, 2), (2, 20)]
ROOMS = (1, 2, 3, 7, 999, 1000)


def cells(n, m):
    """All cells of m with n numbers, rising."""
    return list(itertools.product(range(m), repeat=n))


def cells_by_slab(n, m):
    found = {k: [] for k in range(9)}
    for cell in cells(n, m):
        found[sum(cell) // m].append(cell)
    return found


def some_cells():
    """Pairs of an m and a cell of it."""
    found = [(m, cell) for n, m in SMALL for cell in cells(n, m)]
    for m in (1, 2, 13, 19, 20):
        for n in range(1, 9):
            found += [(m, (0,) * n), (m, (m - 1,) * n)]
            found += [(m, tuple([(at * step + 3) % m for at in range(n)])) for step in (1, 7, 11)]
    return found


def share(fraction):
    return (fraction.numerator, fraction.denominator)


def uptos(n):
    """Shares from 0 to n, with bottoms from 1 to 1000."""
    found = set()
    for bottom in ROOMS:
        tops = {0, 1, n * bottom, n * bottom - 1, n * bottom // 2} | {n * bottom * part // 7 for part in range(8)}
        found |= {fractions.Fraction(top, bottom) for top in tops}
    return sorted(found)


def below(n, upto):
    """How much of the cube comes to a number or less, by pieces of curves, side by side.

    The pieces of the cube of one side less are put together: much(x) of n sides is
    the sum over the last number, from 0 to 1, of much(x less it) of n less 1 sides.
    Each piece, from a whole number to the next, is a list of numbers by powers.
    """
    pieces = [[fractions.Fraction(0), fractions.Fraction(1)]]
    for size in range(2, n + 1):
        pieces = [longer_piece(pieces, at) for at in range(size)]
    if upto == n:
        return fractions.Fraction(1)
    at = upto.numerator // upto.denominator
    return value_at(pieces[at], upto - at)


def value_at(numbers, x):
    return sum([number * x ** power for power, number in enumerate(numbers)])


def summed_up(numbers):
    return [fractions.Fraction(0)] + [number / (power + 1) for power, number in enumerate(numbers)]


def longer_piece(pieces, at):
    """The piece from at to at and 1 of one side more: both pieces that it reaches into."""
    size = len(pieces)
    one = [fractions.Fraction(1)]
    upper = pieces[at] if at < size else one
    lower = pieces[at - 1] if at > 0 else [fractions.Fraction(0)]
    rising, falling = summed_up(upper), summed_up(lower)
    many = max(len(rising), len(falling))
    rising += [fractions.Fraction(0)] * (many - len(rising))
    falling += [fractions.Fraction(0)] * (many - len(falling))
    piece = [more - less for more, less in zip(rising, falling)]
    piece[0] += value_at(falling, 1)
    return piece


class TestInterface(Asking):
    def test_names_and_arguments(self):
        self.assert_arguments(module, {
            "slab_of": ["m", "cell"],
            "led": ["m", "cell"],
            "led_back": ["m", "cell"],
            "wraps_of": ["m", "cell"],
            "slab_many": ["n", "m", "k"],
            "slab_all": ["n", "m", "k"],
            "cut_upto": ["n", "upto"],
            "cut_share": ["n", "k"],
        })


class TestCells(Asking):
    def test_told_ones(self):
        told = (
            # m, cell, slab, led, led_back, wraps
            (1, (0,), 0, (0,), (0,), 0),
            (1, (0,) * 8, 0, (0,) * 8, (0,) * 8, 0),
            (20, (0,), 0, (0,), (0,), 0),
            (20, (19,), 0, (19,), (19,), 0),
            (5, (3, 4), 1, (3, 2), (3, 1), 0),
            (5, (4, 3), 1, (4, 2), (4, 4), 1),
            (5, (2, 2, 2), 1, (2, 4, 1), (2, 0, 0), 0),
            (20, (0,) * 8, 0, (0,) * 8, (0,) * 8, 0),
            (20, (19,) * 8, 7, (19, 18, 17, 16, 15, 14, 13, 12), (19,) + (0,) * 7, 0),
            (2, (1, 0, 1, 0, 1, 0, 1, 0), 2, (1, 1, 0, 0, 1, 1, 0, 0), (1,) * 8, 4),
        )
        for m, cell, slab, forth, back, wraps in told:
            self.assertEqual(slab_of(m, cell), slab)
            self.assertEqual(led(m, cell), forth)
            self.assertEqual(led_back(m, cell), back)
            self.assertEqual(wraps_of(m, cell), wraps)

    def test_by_what_they_are(self):
        for m, cell in some_cells():
            self.assertEqual(slab_of(m, cell), sum(cell) // m)
            due = tuple([sum(cell[:place + 1]) % m for place in range(len(cell))])
            self.assertEqual(led(m, cell), due)
            wraps = [place for place in range(1, len(cell)) if cell[place] < cell[place - 1]]
            self.assertEqual(wraps_of(m, cell), len(wraps))

    def test_each_of_the_other(self):
        for m, cell in some_cells():
            self.assertEqual(led_back(m, led(m, cell)), cell)
            self.assertEqual(led(m, led_back(m, cell)), cell)

    def test_as_many_wraps_as_the_slab(self):
        for m, cell in some_cells():
            self.assertEqual(wraps_of(m, led(m, cell)), slab_of(m, cell))

    def test_one_cell_asked_with_several_m(self):
        self.assertEqual([slab_of(m, (4, 4, 4)) for m in (5, 6, 12, 13, 20)], [2, 2, 1, 0, 0])
        self.assertEqual([led(m, (4, 4, 4)) for m in (5, 20)], [(4, 3, 2), (4, 8, 12)])

    def test_kinds(self):
        for m, cell in ((1, (0,)), (5, (3, 4)), (20, (19,) * 8)):
            self.assertIs(type(slab_of(m, cell)), int)
            self.assertIs(type(wraps_of(m, cell)), int)
            self.assert_numbers(tuple, led(m, cell))
            self.assert_numbers(tuple, led_back(m, cell))


class TestSlabs(Asking):
    def test_all_cells_gone_through(self):
        for n, m in SMALL:
            found = cells_by_slab(n, m)
            for k in range(9):
                self.assertEqual(slab_many(n, m, k), len(found[k]))
                if len(found[k]) <= 300:
                    self.assertEqual(slab_all(n, m, k), found[k])

    def test_told_counts(self):
        self.assertEqual(slab_many(1, 1, 0), 1)
        self.assertEqual(slab_many(1, 20, 0), 20)
        self.assertEqual(slab_many(1, 20, 1), 0)
        self.assertEqual(slab_many(2, 3, 0), 6)
        self.assertEqual(slab_many(2, 3, 1), 3)
        self.assertEqual([slab_many(8, 1, k) for k in range(9)], [1] + [0] * 8)
        # Those of the slab 0 are picks with repeats.
        self.assertEqual(slab_many(8, 20, 0), math.comb(27, 8))
        self.assertEqual(slab_many(8, 20, 8), 0)

    def test_each_slab_of_the_greatest(self):
        # Eight numbers below 20 with a sum: by signs over how many reach 20.
        for k in range(9):
            many = 0
            for total in range(20 * k, 20 * k + 20):
                parts = [
                    (-1) ** beyond * math.comb(8, beyond) * math.comb(total - 20 * beyond + 7, 7)
                    for beyond in range(total // 20 + 1)
                ]
                many += sum(parts)
            self.assertEqual(slab_many(8, 20, k), many)

    def test_nothing_where_there_is_none(self):
        for n in range(1, 9):
            for k in range(n, 9):
                for m in (1, 2, 20):
                    self.assertEqual(slab_many(n, m, k), 0)
                    self.assertEqual(slab_all(n, m, k), [])
        self.assertEqual(slab_all(8, 1, 1), [])

    def test_told_lists(self):
        self.assertEqual(slab_all(1, 1, 0), [(0,)])
        self.assertEqual(slab_all(1, 3, 0), [(0,), (1,), (2,)])
        self.assertEqual(slab_all(2, 3, 1), [(1, 2), (2, 1), (2, 2)])
        self.assertEqual(slab_all(8, 1, 0), [(0,) * 8])
        self.assertEqual(slab_all(8, 2, 4)[-1], (1,) * 8)

    def test_each_list(self):
        for n in range(1, 9):
            for m in range(1, 21):
                for k in range(9):
                    many = slab_many(n, m, k)
                    if many > 300:
                        self.assert_too_great(many, 300, slab_all, n, m, k)
                        continue
                    found = slab_all(n, m, k)
                    self.assertEqual(len(found), many)
                    self.assertEqual(found, sorted(set(found)))
                    for cell in found:
                        self.assertEqual(len(cell), n)
                        self.assertEqual(slab_of(m, cell), k)

    def test_three_hundred_or_fewer_are_told(self):
        # 286 are the most, up to 300, that any such n, m and k have.
        self.assertEqual(len(slab_all(3, 11, 0)), 286)
        self.assertEqual(len(slab_all(3, 13, 2)), 286)
        self.assert_too_great(364, 300, slab_all, 3, 12, 0)
        self.assert_too_great(math.comb(27, 8), 300, slab_all, 8, 20, 0)

    def test_kinds(self):
        for n, m, k in ((1, 1, 0), (2, 3, 1), (8, 20, 4)):
            self.assertIs(type(slab_many(n, m, k)), int)
        for n, m, k in ((1, 1, 0), (2, 3, 1), (1, 20, 0)):
            self.assertIs(type(slab_all(n, m, k)), list)
            for cell in slab_all(n, m, k):
                self.assert_numbers(tuple, cell)


class TestCutUpto(Asking):
    def test_told_ones(self):
        told = (
            (1, (0, 1), (0, 1)),
            (1, (1, 1), (1, 1)),
            (2, (1, 1), (1, 2)),
            (2, (1, 2), (1, 8)),
            (2, (3, 2), (7, 8)),
            (3, (1, 1), (1, 6)),
            (3, (3, 2), (1, 2)),
            (3, (2, 1), (5, 6)),
            (12, (0, 1), (0, 1)),
            (12, (6, 1), (1, 2)),
            (12, (12, 1), (1, 1)),
            (12, (1, 1), (1, math.factorial(12))),
            (12, (1, 1000), (1, math.factorial(12) * 1000 ** 12)),
        )
        for n, upto, due in told:
            self.assertEqual(cut_upto(n, upto), due)

    def test_of_one_side_the_share_itself(self):
        for bottom in range(1, 40):
            for top in range(bottom + 1):
                if math.gcd(top, bottom) == 1:
                    self.assertEqual(cut_upto(1, (top, bottom)), (top, bottom))
        self.assertEqual(cut_upto(1, (1, 1000)), (1, 1000))
        self.assertEqual(cut_upto(1, (999, 1000)), (999, 1000))

    def test_by_pieces_of_curves(self):
        for n in range(1, 13):
            for upto in uptos(n):
                answer = cut_upto(n, share(upto))
                self.assertEqual(answer, share(below(n, upto)))

    def test_rising(self):
        for n in (1, 2, 5, 12):
            found = [fractions.Fraction(*cut_upto(n, share(upto))) for upto in uptos(n)]
            self.assertEqual(found, sorted(set(found)))
            self.assertEqual((found[0], found[-1]), (0, 1))

    def test_a_share_and_what_lacks_come_to_one(self):
        for n in range(1, 13):
            for upto in uptos(n):
                both = [fractions.Fraction(*cut_upto(n, share(one))) for one in (upto, n - upto)]
                self.assertEqual(sum(both), 1)

    def test_kinds(self):
        for n, upto in ((1, (0, 1)), (3, (3, 2)), (12, (11999, 1000))):
            answer = cut_upto(n, upto)
            self.assert_numbers(tuple, answer)
            self.assertEqual(math.gcd(*answer), 1)
            self.assertGreaterEqual(answer[1], 1)


class TestCutShare(Asking):
    def test_told_ones(self):
        self.assertEqual(cut_share(1, 0), (1, 1))
        self.assertEqual(cut_share(1, 1), (0, 1))
        self.assertEqual(cut_share(2, 0), (1, 2))
        self.assertEqual(cut_share(3, 1), (2, 3))
        self.assertEqual(cut_share(12, 0), (1, math.factorial(12)))
        self.assertEqual(cut_share(12, 12), (0, 1))

    def test_by_counts_of_falls(self):
        for n in range(1, 7):
            found = orders_by_many(n)
            for k in range(n):
                due = fractions.Fraction(len(found[k]), math.factorial(n))
                self.assertEqual(cut_share(n, k), share(due))
        for n in range(1, 13):
            for k in range(13):
                due = fractions.Fraction(number_at(n, k), math.factorial(n))
                self.assertEqual(cut_share(n, k), share(due))

    def test_between_two_cuts(self):
        for n in range(1, 13):
            for k in range(n):
                upper, lower = cut_upto(n, (k + 1, 1)), cut_upto(n, (k, 1))
                due = fractions.Fraction(*upper) - fractions.Fraction(*lower)
                self.assertEqual(cut_share(n, k), share(due))

    def test_nothing_at_n_or_more(self):
        for n in range(1, 13):
            for k in range(n, 13):
                self.assertEqual(cut_share(n, k), (0, 1))

    def test_kinds(self):
        for n, k in ((1, 0), (1, 12), (12, 5)):
            self.assert_numbers(tuple, cut_share(n, k))


class TestSo(Asking):
    """What [6.5] says, where no test above has it."""

    def test_all_slabs_together(self):
        for n in range(1, 9):
            for m in range(1, 21):
                together = sum([slab_many(n, m, k) for k in range(9)])
                self.assertEqual(together, m ** n)

    def test_all_cuts_together(self):
        for n in range(1, 13):
            cuts = [fractions.Fraction(*cut_share(n, k)) for k in range(13)]
            self.assertEqual(sum(cuts), 1)


class TestOwn(Asking):
    """[0.2], where no refusal is due."""

    def test_lists_told_are_the_asker_s_own(self):
        self.assert_own(slab_all, 1, 1, 0)
        self.assert_own(slab_all, 2, 3, 1)
        self.assert_own(slab_all, 3, 4, 1)
        empty = slab_all(1, 5, 1)
        empty.append((0,))
        self.assertEqual(slab_all(1, 5, 1), [])

    def test_same_question_same_answer(self):
        def answers():
            return [
                (slab_of(m, cell), led(m, cell), led_back(m, cell), wraps_of(m, cell))
                for m, cell in ((1, (0,)), (5, (3, 4)), (20, (19,) * 8))
            ] + [slab_many(8, 20, 3), slab_all(3, 4, 1), cut_upto(5, (7, 3)), cut_share(5, 2)]
        first = answers()
        with self.assertRaises(ValueError):
            slab_all(8, 20, 3)
        with self.assertRaises(ValueError):
            led(5, (5,))
        self.assertEqual(answers(), first)

    def test_what_is_told_may_be_handed_in_again(self):
        for n in range(1, 7):
            for k in range(n + 1):
                self.assertEqual(cut_upto(1, cut_share(n, k)), cut_share(n, k))
        for cell in slab_all(3, 5, 1):
            self.assertEqual(wraps_of(5, led(5, cell)), 1)


if __name__ == "__main__":
    unittest.main()
