"""[10.1], [0.4]: orders written as texts, and read from them."""

import unittest

from fallcounts import texts as module
from fallcounts.errors import FallError, NoOrder, NoRow, NoText
from fallcounts.texts import order_shown, orders_read, orders_shown

from helper import Asking, drawn_orders, falling, many_orders, no_orders, rising, things_no_tuples

ROW = "2 0 1"
TWENTY = "\n".join([ROW] * 20)

# Rows that write no order.
NO_ROWS = (
    "",
    " ",
    "  ",
    # a blank at an end, two blanks, no blank
    " 2 0 1",
    "2 0 1 ",
    "2  0 1",
    "2 0  1",
    "0 ",
    " 0",
    "201",
    # a nought ahead
    "00",
    "2 00 1",
    "02 0 1",
    "2 0 01",
    "000",
    "0 1 2 3 4 5 6 7 8 09",
    # other signs
    "a",
    "2 0 a",
    "2 0 1a",
    "2,0,1",
    "2, 0, 1",
    "2-0-1",
    "+0",
    "-0",
    "2 0 +1",
    "2 0 -1",
    "0.",
    "2 0 1.",
    "1e0 0",
    "0x1 0",
    "1_0",
    "(2, 0, 1)",
    "[0]",
    "none",
    "True",
    "0 True",
    "\"0\"",
    "~",
    # numbers, but no order
    "1",
    "1 2",
    "0 0",
    "2 0 2",
    "0 2",
    "1 1 0",
    "0 1 3",
    "20",
    "10000000000000000000",
    "0 10000000000000000000",
    "99999999999999999999 0",
    "100000000000000000000",
    "0 100000000000000000000",
    " ".join([str(number) for number in range(21)]),
    " ".join(["0"] * 900),
    "0" * 20,
    "0" * 21,
    "1" * 1999,
)


def no_texts():
    """Things of whatever kind that are no texts, new at each call."""
    return [thing for thing in things_no_tuples() if not isinstance(thing, str)] + [
        (), (0,), ("0",), ("2 0 1",), ["2 0 1"], ["0"], {"0": "0"}, [["0"]], (2, 0, 1), [(2, 0, 1)], 201,
    ]


def no_lists():
    """Things of whatever kind that are no lists of one to twenty orders, new at each call."""
    found = [thing for thing in things_no_tuples() if thing not in ([(0,)], [(0, 1)])]
    found += [[], [(0,)] * 21, [rising(20)] * 21, [(0,)] * 22, [(0,)] * 1000]
    found += [((0,),), ((0,), (1, 0)), (0,), (1, 0), (), {0: (0,)}, {(0,): (0,)}, "0", "2 0 1", [[0]], [[0, 1]]]
    for wrong in no_orders():
        found += [[wrong], [wrong, (0,)], [(0,), wrong], [(0,), wrong, (1, 0)], [(0,)] * 19 + [wrong]]
    for place in range(20):
        found.append([(0,)] * place + [(1,)] + [(0,)] * (19 - place))
    return found


class TestInterface(Asking):
    def test_names_and_arguments(self):
        self.assert_arguments(module, {
            "order_shown": ["order"],
            "orders_shown": ["some"],
            "orders_read": ["text"],
        })


class TestShown(Asking):
    def test_told_ones(self):
        self.assertEqual(order_shown((0,)), "0")
        self.assertEqual(order_shown((2, 0, 1)), "2 0 1")
        self.assertEqual(order_shown(falling(12)), "11 10 9 8 7 6 5 4 3 2 1 0")
        self.assertEqual(orders_shown([(0,)]), "0")
        self.assertEqual(orders_shown([(2, 0, 1), (0,)]), "2 0 1\n0")
        self.assertEqual(orders_shown([(0,), (1, 0), (0,)]), "0\n1 0\n0")
        self.assertEqual(orders_shown([(2, 0, 1)] * 20), TWENTY)

    def test_kinds(self):
        for order in ((0,), (2, 0, 1), rising(20)):
            self.assertIs(type(order_shown(order)), str)
            self.assertIs(type(orders_shown([order])), str)
            read = orders_read(order_shown(order))
            self.assertIs(type(read), list)
            for one in read:
                self.assert_numbers(tuple, one)


class TestRead(Asking):
    def test_told_ones(self):
        self.assertEqual(orders_read("0"), [(0,)])
        self.assertEqual(orders_read("2 0 1"), [(2, 0, 1)])
        self.assertEqual(orders_read("2 0 1\n0"), [(2, 0, 1), (0,)])
        self.assertEqual(orders_read(TWENTY), [(2, 0, 1)] * 20)

    def test_each_of_the_other(self):
        for order in many_orders():
            self.assertEqual(orders_read(order_shown(order)), [order])
            self.assertEqual(order_shown(orders_read(order_shown(order))[0]), order_shown(order))
        for n in (1, 2, 7, 19, 20):
            for many in (1, 2, 19, 20):
                orders = drawn_orders(n, many)
                self.assertEqual(orders_read(orders_shown(orders)), orders)

    def test_orders_of_several_many(self):
        orders = [rising(n) for n in range(1, 21)]
        self.assertEqual(orders_read(orders_shown(orders)), orders)
        self.assertEqual(orders_shown(orders_read(orders_shown(orders))), orders_shown(orders))


class TestNoText(Asking):
    def assert_no_text(self, row, thing):
        kept = repr(thing)
        with self.subTest(thing=kept[:90]):
            with self.assertRaises(FallError) as caught:
                orders_read(thing)
            self.assertIs(type(caught.exception), NoText)
            self.assertEqual(caught.exception.row, row)
            self.assertIs(type(caught.exception.row), int)
            self.assertEqual(repr(thing), kept)

    def test_no_text(self):
        for thing in no_texts():
            self.assert_no_text(0, thing)

    def test_a_row_that_writes_no_order(self):
        for wrong in NO_ROWS:
            self.assert_no_text(1, wrong)
            self.assert_no_text(1, f"{wrong}\n{ROW}")
            self.assert_no_text(2, f"{ROW}\n{wrong}")
            self.assert_no_text(2, f"{ROW}\n{wrong}\n{ROW}")
            for row in (3, 19, 20):
                rows = [ROW] * 20
                rows[row - 1] = wrong
                self.assert_no_text(row, "\n".join(rows))

    def test_the_first_of_several(self):
        for row in range(1, 21):
            rows = [ROW] * (row - 1) + ["1"] * (25 - row)
            self.assert_no_text(row, "\n".join(rows))

    def test_line_feeds_at_an_end(self):
        self.assert_no_text(1, "\n")
        self.assert_no_text(1, "\n0")
        self.assert_no_text(2, "0\n")
        self.assert_no_text(2, "0\n\n0")
        self.assert_no_text(3, "0\n0\n")
        self.assert_no_text(21, TWENTY + "\n")

    def test_a_twenty_first_row(self):
        self.assert_no_text(21, f"{TWENTY}\n{ROW}")
        self.assert_no_text(21, f"{TWENTY}\n{ROW}\n{ROW}")
        self.assert_no_text(21, f"{TWENTY}\nwrong")
        self.assert_no_text(21, f"{TWENTY}\n{ROW}\nwrong")
        self.assert_no_text(21, "\n".join(["0"] * 1000))


class TestRefused(Asking):
    def test_no_order(self):
        for thing in no_orders():
            self.assert_refused(NoOrder, order_shown, thing)

    def test_no_list_of_orders(self):
        for thing in no_lists():
            self.assert_refused(NoRow, orders_shown, thing)

    def test_a_list_of_one_to_twenty_is_taken(self):
        for many in range(1, 21):
            self.assertEqual(orders_shown([(0,)] * many), "\n".join(["0"] * many))


class TestOwn(Asking):
    """[0.2], where no refusal is due."""

    def test_lists_told_are_the_asker_s_own(self):
        self.assert_own(orders_read, "0")
        self.assert_own(orders_read, TWENTY)

    def test_what_is_handed_in_stays_as_it_was(self):
        orders = [(2, 0, 1), (0,)]
        text = orders_shown(orders)
        self.assertEqual(orders, [(2, 0, 1), (0,)])
        orders.clear()
        self.assertEqual(text, "2 0 1\n0")
        self.assertEqual(orders_shown([(2, 0, 1), (0,)]), text)

    def test_a_refusal_changes_no_later_answer(self):
        before = (orders_read(TWENTY), orders_shown([(1, 0)]))
        for wrong in NO_ROWS:
            with self.assertRaises(NoText):
                orders_read(f"{ROW}\n{wrong}")
        self.assertEqual((orders_read(TWENTY), orders_shown([(1, 0)])), before)


if __name__ == "__main__":
    unittest.main()
