"""Orders to ask about, things that are none, and what the tests have in common."""

import inspect
import itertools
import math
import random
import unittest


def rising(n):
    return tuple(range(n))


def falling(n):
    return tuple(range(n - 1, -1, -1))


def drawn_orders(n, many):
    """The same orders at each call, drawn by a fixed seed."""
    source = random.Random(1000 + n)
    orders = []
    for _ in range(many):
        numbers = list(range(n))
        source.shuffle(numbers)
        orders.append(tuple(numbers))
    return orders


def all_orders(n):
    return list(itertools.permutations(range(n)))


def orders_of(n):
    """All orders of few numbers; of more the rising, the falling and drawn ones."""
    if n <= 6:
        return all_orders(n)
    return [rising(n), falling(n)] + drawn_orders(n, 40)


def many_orders():
    """Orders of each n from 1 to 20."""
    return [order for n in range(1, 21) for order in orders_of(n)]


def nested(thing, deep):
    for _ in range(deep):
        thing = [thing]
    return thing


def tuples_no_orders():
    """Tuples that are no orders, new at each call."""
    return [
        (),
        rising(21),
        falling(21),
        rising(22),
        rising(1000),
        # a number twice, left out, beyond n less 1, below nought
        (0, 0),
        (1, 1),
        (0, 1, 1),
        (2, 0, 2),
        (1,),
        (2,),
        (-1,),
        (0, 2),
        (1, 2),
        (1, 2, 3),
        (0, 1, 3),
        (-1, 0),
        (0, -1),
        (0, 1, -1),
        (-1, 0, 1),
        (10 ** 39,),
        (0, 1 - 10 ** 39),
        rising(19) + (18,),
        rising(19) + (20,),
        # a truth in a number's place
        (True,),
        (False,),
        (0, True),
        (True, 0),
        (False, 1),
        (1, False),
        (False, True),
        (True, False),
        (2, True, 0),
        (2, 1, False),
        (0, 1, True),
        (False,) + rising(20)[1:],
        # other kinds within
        (None,),
        (0, None),
        (None, 0),
        ("0",),
        ("0", "1"),
        (0, "1"),
        (1, "", 0),
        ([],),
        ([0],),
        (0, [1]),
        ([1], 0),
        ({},),
        ({0: 0},),
        (0, {1: 1}),
        ((),),
        ((0,),),
        ((0, 1),),
        (0, (1,)),
        ((0,), (1,)),
        ((0, 1), (1, 0)),
        (0, 1, (2,)),
        (nested(0, 7),),
    ]


def things_no_tuples():
    """Things of other kinds than tuples, new at each call."""
    return [
        None,
        True,
        False,
        0,
        1,
        -1,
        20,
        10 ** 39,
        1 - 10 ** 39,
        "",
        "0",
        "01",
        "0 1",
        "(0, 1)",
        "a" * 100,
        [],
        [0],
        [0, 1],
        [1, 0],
        list(range(20)),
        [0] * 1000,
        [(0,)],
        [(0, 1)],
        [None],
        [[0], {1: [2]}],
        nested((0,), 7),
        {},
        {0: 0},
        {0: 1, 1: 0},
        {(0, 1): (0, 1)},
        {"order": [0, 1]},
    ]


def no_orders():
    return tuples_no_orders() + things_no_tuples()


def no_whole():
    """Things of whatever kind that are no whole numbers, new at each call."""
    others = [thing for thing in things_no_tuples() if type(thing) is not int]
    return others + [(), (0,), (1,), (0, 1), ((1,),), ([],), "1", "12", [1], {1: 1}]


def no_numbers(least, most):
    """Things that are no whole numbers from least to most, new at each call."""
    beyond = [least - 1, least - 2, most + 1, most + 2, least - 10 ** 39, most + 10 ** 39]
    return beyond + no_whole()


def number_at(n, k):
    """How many orders of n have just k falls, summed up over parts with signs."""
    parts = [math.comb(n + 1, j) * (k + 1 - j) ** n for j in range(k + 1)]
    return sum(parts[::2]) - sum(parts[1::2])


def falls_seen(numbers):
    """The falls of a tuple of numbers, found without the package."""
    return tuple(
        [at for at, (one, other) in enumerate(zip(numbers, numbers[1:])) if one > other]
    )


def orders_by_many(n):
    """All orders of n, rising, by how many falls they have."""
    found = {k: [] for k in range(n)}
    for order in all_orders(n):
        found[len(falls_seen(order))].append(order)
    return found


def orders_by_falls(n):
    """All orders of n, rising, by their falls."""
    found = {}
    for order in all_orders(n):
        found.setdefault(falls_seen(order), []).append(order)
    return found


class Asking(unittest.TestCase):
    """What test cases ask alike."""

    def assert_refused(self, kind, ask, *things):
        kept = repr(things)
        with self.subTest(ask=ask.__name__, things=kept[:90]):
            with self.assertRaises(kind) as caught:
                ask(*things)
            self.assertIs(type(caught.exception), kind)
            self.assertEqual(repr(things), kept)

    def assert_too_great(self, many, most, ask, *things):
        kept = repr(things)
        with self.assertRaises(ValueError) as caught:
            ask(*things)
        error = caught.exception
        self.assertEqual(type(error).__name__, "TooGreat")
        self.assertEqual((error.many, error.most), (many, most))
        self.assertEqual(repr(things), kept)

    def assert_numbers(self, kind, answer):
        """The answer is of the kind, and holds whole numbers alone."""
        self.assertIs(type(answer), kind)
        for number in answer:
            self.assertIs(type(number), int)

    def assert_own(self, ask, *things):
        """A list that is told is new at each call."""
        first = ask(*things)
        self.assertIs(type(first), list)
        due = list(first)
        second = ask(*things)
        first.append(7)
        first[0] = None
        self.assertEqual(second, due)
        second.clear()
        self.assertEqual(ask(*things), due)

    def assert_arguments(self, module, told):
        for name, due in told.items():
            with self.subTest(name=name):
                found = inspect.signature(getattr(module, name)).parameters
                self.assertEqual(list(found), due)
