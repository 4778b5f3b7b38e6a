"""[0.2], [0.4], [1.1], [1.4]: what the functions over orders refuse."""

import copy
import unittest

from fallcounts.errors import NoNumber, NoOrder
from fallcounts.orders import (
    back,
    behind,
    contrary,
    falls_many,
    falls_of,
    order_good,
    order_needed,
    rises_of,
    runs_of,
    turned,
)

from helper import falling, many_orders, no_orders, rising

OF_ONE_ORDER = (falls_of, rises_of, falls_many, turned, contrary, back, runs_of)


def told_exactly(thing):
    """A text that differs wherever a value or its kind does, as True and 1 do."""
    return repr(thing)


class TestRefused(unittest.TestCase):
    def assert_refused(self, kind, ask, *things):
        with self.assertRaises(kind) as caught:
            ask(*things)
        self.assertIs(type(caught.exception), kind)

    def test_no_order_of_one(self):
        for ask in OF_ONE_ORDER + (order_needed,):
            for thing in no_orders():
                with self.subTest(ask=ask.__name__, thing=repr(thing)[:80]):
                    self.assert_refused(NoOrder, ask, thing)

    def test_no_order_at_the_first_place(self):
        for thing in no_orders():
            for order in ((0,), (1, 0), rising(20)):
                with self.subTest(thing=repr(thing)[:80], order=order):
                    self.assert_refused(NoOrder, behind, thing, order)

    def test_no_order_at_the_second_place(self):
        for thing in no_orders():
            for order in ((0,), (1, 0), rising(20)):
                with self.subTest(thing=repr(thing)[:80], order=order):
                    self.assert_refused(NoOrder, behind, order, thing)

    def test_no_order_at_both_places(self):
        for thing in no_orders():
            with self.subTest(thing=repr(thing)[:80]):
                self.assert_refused(NoOrder, behind, thing, thing)
                self.assert_refused(NoOrder, behind, thing, ())
                self.assert_refused(NoOrder, behind, None, thing)

    def test_no_number_of_unlike_orders(self):
        for n in range(1, 21):
            for m in range(1, 21):
                if n != m:
                    self.assert_refused(NoNumber, behind, rising(n), falling(m))
                    self.assert_refused(NoNumber, behind, falling(n), rising(m))

    def test_no_order_comes_ahead_of_no_number(self):
        self.assert_refused(NoOrder, behind, (0, 0), (0,))
        self.assert_refused(NoOrder, behind, (0,), (0, 0))
        self.assert_refused(NoOrder, behind, (0, 1, 2), (1, 2))
        self.assert_refused(NoOrder, behind, (1, 2), (0, 1, 2))
        self.assert_refused(NoOrder, behind, rising(21), rising(20))
        self.assert_refused(NoOrder, behind, rising(20), rising(21))
        self.assert_refused(NoOrder, behind, (), (0,))
        self.assert_refused(NoOrder, behind, (0,), ())

    def test_orders_are_not_refused(self):
        for order in many_orders():
            self.assertIsNone(order_needed(order))


class TestUnchanged(unittest.TestCase):
    def test_what_is_refused_stays_as_it_was(self):
        for thing in no_orders():
            kept = told_exactly(copy.deepcopy(thing))
            order_good(thing)
            for ask in OF_ONE_ORDER:
                with self.assertRaises(NoOrder):
                    ask(thing)
            for one, other in ((thing, (0,)), ((0,), thing), (thing, thing)):
                with self.assertRaises(NoOrder):
                    behind(one, other)
            self.assertEqual(told_exactly(thing), kept)

    def test_a_refusal_changes_no_later_answer(self):
        order = (3, 1, 0, 2)
        before = [ask(order) for ask in OF_ONE_ORDER]
        for thing in no_orders():
            for ask in OF_ONE_ORDER:
                with self.assertRaises(NoOrder):
                    ask(thing)
        with self.assertRaises(NoNumber):
            behind(order, (0,))
        self.assertEqual([ask(order) for ask in OF_ONE_ORDER], before)

    def test_a_list_changed_behind_the_call_changes_nothing(self):
        within = [0]
        thing = (within, 1)
        self.assertIs(order_good(thing), False)
        within.clear()
        self.assertIs(order_good(thing), False)
        self.assertIs(order_good((0, 1)), True)


if __name__ == "__main__":
    unittest.main()
