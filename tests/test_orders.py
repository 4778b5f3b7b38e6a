"""[1.1] to [1.5]: orders, their falls and runs, and what they are turned into."""

import inspect
import unittest

from fallcounts import orders as module
from fallcounts.orders import (
    back,
    behind,
    contrary,
    falls_many,
    falls_of,
    order_good,
    rises_of,
    runs_of,
    turned,
)

from helper import (
    all_orders,
    drawn_orders,
    falling,
    many_orders,
    no_orders,
    orders_of,
    rising,
    things_no_tuples,
    tuples_no_orders,
)

ZIGZAG_20 = (1, 0, 3, 2, 5, 4, 7, 6, 9, 8, 11, 10, 13, 12, 15, 14, 17, 16, 19, 18)
EVEN_PLACES = (0, 2, 4, 6, 8, 10, 12, 14, 16, 18)
ODD_PLACES = (1, 3, 5, 7, 9, 11, 13, 15, 17)


class TestInterface(unittest.TestCase):
    def test_names_and_arguments(self):
        arguments = {
            "order_good": ["thing"],
            "falls_of": ["order"],
            "rises_of": ["order"],
            "falls_many": ["order"],
            "turned": ["order"],
            "contrary": ["order"],
            "back": ["order"],
            "behind": ["one", "other"],
            "runs_of": ["order"],
        }
        for name, due in arguments.items():
            with self.subTest(name=name):
                found = inspect.signature(getattr(module, name)).parameters
                self.assertEqual(list(found), due)


class TestOrderGood(unittest.TestCase):
    def test_told_orders(self):
        for order in ((0,), (0, 1), (1, 0), (2, 0, 1), (3, 1, 0, 2), ZIGZAG_20):
            with self.subTest(order=order):
                self.assertIs(order_good(order), True)

    def test_orders_of_one_to_twenty(self):
        for order in many_orders():
            self.assertIs(order_good(order), True, order)

    def test_tuples_that_are_none(self):
        for thing in tuples_no_orders():
            with self.subTest(thing=repr(thing)[:80]):
                self.assertIs(order_good(thing), False)

    def test_other_kinds(self):
        for thing in things_no_tuples():
            with self.subTest(thing=repr(thing)[:80]):
                self.assertIs(order_good(thing), False)

    def test_twenty_are_good_twenty_one_are_not(self):
        for make in (rising, falling):
            self.assertIs(order_good(make(20)), True)
            self.assertIs(order_good(make(21)), False)

    def test_lists_of_orders_numbers_are_none(self):
        for order in orders_of(4) + orders_of(20):
            self.assertIs(order_good(list(order)), False)

    def test_one_number_exchanged(self):
        for n in (1, 2, 3, 7, 20):
            for order in (rising(n), falling(n), drawn_orders(n, 1)[0]):
                for place in range(n):
                    for wrong in self.wrong_for(order, place):
                        thing = order[:place] + (wrong,) + order[place + 1:]
                        self.assertIs(order_good(thing), False, thing)

    def wrong_for(self, order, place):
        twice = [number for number in order if number != order[place]]
        truths = [True, False]
        return twice + truths + [-1, len(order), None, "0", [0], (0,), {0: 0}]


class TestFalls(unittest.TestCase):
    def test_told_orders(self):
        told = (
            ((0,), (), ()),
            ((0, 1), (), (0,)),
            ((1, 0), (0,), ()),
            ((2, 0, 1), (0,), (1,)),
            ((0, 2, 1), (1,), (0,)),
            ((3, 1, 0, 2), (0, 1), (2,)),
            ((1, 3, 0, 4, 2), (1, 3), (0, 2)),
            (ZIGZAG_20, EVEN_PLACES, ODD_PLACES),
        )
        for order, falls, rises in told:
            with self.subTest(order=order):
                self.assertEqual(falls_of(order), falls)
                self.assertEqual(rises_of(order), rises)
                self.assertEqual(falls_many(order), len(falls))

    def test_rising_and_falling_orders(self):
        for n in range(1, 21):
            places = tuple(range(n - 1))
            self.assertEqual(falls_of(rising(n)), ())
            self.assertEqual(rises_of(rising(n)), places)
            self.assertEqual(falls_many(rising(n)), 0)
            self.assertEqual(falls_of(falling(n)), places)
            self.assertEqual(rises_of(falling(n)), ())
            self.assertEqual(falls_many(falling(n)), n - 1)

    def test_each_place_is_looked_at(self):
        for order in many_orders():
            falls, rises = falls_of(order), rises_of(order)
            self.assertEqual(sorted(falls + rises), list(range(len(order) - 1)))
            for place in falls:
                self.assertGreater(order[place], order[place + 1])
            for place in rises:
                self.assertLess(order[place], order[place + 1])
            self.assertEqual(list(falls), sorted(falls))
            self.assertEqual(list(rises), sorted(rises))
            self.assertEqual(falls_many(order), len(falls))

    def test_how_many_orders_have_so_many_falls(self):
        told = ([1], [1, 1], [1, 4, 1], [1, 11, 11, 1], [1, 26, 66, 26, 1])
        for n, due in enumerate(told, start=1):
            found = [0] * n
            for order in all_orders(n):
                found[falls_many(order)] += 1
            self.assertEqual(found, due)

    def test_kinds(self):
        for order in ((0,), (2, 0, 1), rising(20), falling(20), ZIGZAG_20):
            for answer in (falls_of(order), rises_of(order)):
                self.assertIs(type(answer), tuple)
                for place in answer:
                    self.assertIs(type(place), int)
            self.assertIs(type(falls_many(order)), int)


class TestTurned(unittest.TestCase):
    def test_told_orders(self):
        told = (
            ((0,), (0,), (0,), (0,)),
            ((0, 1), (1, 0), (1, 0), (0, 1)),
            ((2, 0, 1), (1, 0, 2), (0, 2, 1), (1, 2, 0)),
            ((3, 1, 0, 2), (2, 0, 1, 3), (0, 2, 3, 1), (2, 1, 3, 0)),
            ((1, 3, 0, 4, 2), (2, 4, 0, 3, 1), (3, 1, 4, 0, 2), (2, 0, 4, 1, 3)),
        )
        for order, from_end, other_way, places in told:
            with self.subTest(order=order):
                self.assertEqual(turned(order), from_end)
                self.assertEqual(contrary(order), other_way)
                self.assertEqual(back(order), places)

    def test_each_number_of_each_order(self):
        for order in many_orders():
            n = len(order)
            from_end, other_way, places = turned(order), contrary(order), back(order)
            self.assertEqual(len(from_end), n)
            self.assertEqual(len(other_way), n)
            self.assertEqual(len(places), n)
            for place, number in enumerate(order):
                self.assertEqual(from_end[n - 1 - place], number)
                self.assertEqual(other_way[place] + number, n - 1)
                self.assertEqual(places[number], place)

    def test_what_is_told_is_an_order_and_leads_back(self):
        for order in many_orders():
            for change in (turned, contrary, back):
                changed = change(order)
                self.assertIs(order_good(changed), True)
                self.assertIs(type(changed), tuple)
                self.assertEqual(change(changed), order)


class TestBehind(unittest.TestCase):
    def test_told_orders(self):
        told = (
            ((0,), (0,), (0,)),
            ((1, 0), (1, 0), (0, 1)),
            ((2, 0, 1), (0, 2, 1), (1, 0, 2)),
            ((0, 2, 1), (2, 0, 1), (2, 1, 0)),
            ((2, 0, 1), (2, 0, 1), (1, 2, 0)),
            ((3, 1, 0, 2), (1, 3, 2, 0), (0, 3, 1, 2)),
        )
        for one, other, due in told:
            with self.subTest(one=one, other=other):
                self.assertEqual(behind(one, other), due)

    def test_each_place_of_two_orders(self):
        for n in (1, 2, 3, 4, 7, 13, 20):
            orders = orders_of(n)[:24]
            for one in orders:
                for other in orders:
                    answer = behind(one, other)
                    self.assertIs(type(answer), tuple)
                    self.assertIs(order_good(answer), True)
                    for place in range(n):
                        self.assertEqual(answer[place], other[one[place]])

    def test_one_order_twice(self):
        for order in many_orders():
            due = tuple([order[number] for number in order])
            self.assertEqual(behind(order, order), due)

    def test_behind_one_that_falls_nowhere(self):
        for order in many_orders():
            self.assertEqual(behind(order, rising(len(order))), order)
            self.assertEqual(behind(rising(len(order)), order), order)


class TestRuns(unittest.TestCase):
    def test_told_orders(self):
        told = (
            ((0,), [(0,)]),
            ((0, 1), [(0, 1)]),
            ((1, 0), [(1,), (0,)]),
            ((2, 0, 1), [(2,), (0, 1)]),
            ((0, 2, 1), [(0, 2), (1,)]),
            ((3, 1, 0, 2), [(3,), (1,), (0, 2)]),
            ((1, 3, 0, 4, 2), [(1, 3), (0, 4), (2,)]),
        )
        for order, runs in told:
            with self.subTest(order=order):
                self.assertEqual(runs_of(order), runs)

    def test_rising_and_falling_orders(self):
        for n in range(1, 21):
            self.assertEqual(runs_of(rising(n)), [rising(n)])
            self.assertEqual(runs_of(falling(n)), [(number,) for number in falling(n)])

    def test_runs_rise_and_end_at_falls(self):
        for order in many_orders():
            runs = runs_of(order)
            self.assertEqual(tuple([number for run in runs for number in run]), order)
            ends = []
            for run in runs:
                self.assertEqual(list(run), sorted(run))
                ends.append((ends[-1] if ends else -1) + len(run))
            self.assertEqual(tuple(ends), falls_of(order) + (len(order) - 1,))

    def test_kinds(self):
        for order in ((0,), (2, 0, 1), rising(20), falling(20), ZIGZAG_20):
            runs = runs_of(order)
            self.assertIs(type(runs), list)
            for run in runs:
                self.assertIs(type(run), tuple)
                for number in run:
                    self.assertIs(type(number), int)


class TestSo(unittest.TestCase):
    """What [1.5] says behind "So", over orders of one to twenty numbers."""

    def test_one_run_more_than_falls(self):
        for order in many_orders():
            self.assertEqual(len(runs_of(order)), falls_many(order) + 1)

    def test_turned_falls_where_the_order_rises_from_the_other_end(self):
        for order in many_orders():
            due = sorted([len(order) - 2 - place for place in rises_of(order)])
            self.assertEqual(falls_of(turned(order)), tuple(due))

    def test_contrary_falls_where_the_order_rises(self):
        for order in many_orders():
            self.assertEqual(falls_of(contrary(order)), rises_of(order))

    def test_order_and_back_behind_one_another_fall_nowhere(self):
        for order in many_orders():
            self.assertEqual(falls_of(behind(order, back(order))), ())
            self.assertEqual(falls_of(behind(back(order), order)), ())


class TestOwn(unittest.TestCase):
    """[0.2], where no refusal is due."""

    def test_runs_told_are_the_asker_s_own(self):
        for order in ((0,), (2, 0, 1), rising(20), ZIGZAG_20):
            first = runs_of(order)
            due = list(first)
            first.append((7,))
            first[0] = None
            self.assertEqual(runs_of(order), due)
            second = runs_of(order)
            third = runs_of(order)
            second.clear()
            self.assertEqual(third, due)
            self.assertEqual(runs_of(order), due)

    def test_same_question_same_answer(self):
        first = [self.answers(order) for order in many_orders()]
        for thing in no_orders():
            order_good(thing)
            with self.assertRaises(ValueError):
                runs_of(thing)
        again = [self.answers(order) for order in reversed(many_orders())]
        self.assertEqual(first, again[::-1])

    def test_orders_handed_in_stay_as_they_were(self):
        for order in many_orders():
            kept = list(order)
            self.answers(order)
            self.assertEqual(list(order), kept)

    def answers(self, order):
        alone = [
            ask(order)
            for ask in (
                order_good, falls_of, rises_of, falls_many, turned, contrary, back, runs_of
            )
        ]
        return alone + [behind(order, back(order)), behind(order, order)]


if __name__ == "__main__":
    unittest.main()
