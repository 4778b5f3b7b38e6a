"""Orders to ask about, and things that are no orders."""

import itertools
import random


def rising(n):
    return tuple(range(n))


def falling(n):
    return tuple(range(n - 1, -1, -1))


def drawn_orders(n, many):
    """The same orders at each call, drawn by a fixed seed."""
    source = random.Random(1000 + n)
    orders = []
    for _ in range(many):
        numbers = list(range(n))
        source.shuffle(numbers)
        orders.append(tuple(numbers))
    return orders


def all_orders(n):
    return list(itertools.permutations(range(n)))


def orders_of(n):
    """All orders of few numbers; of more the rising, the falling and drawn ones."""
    if n <= 6:
        return all_orders(n)
    return [rising(n), falling(n)] + drawn_orders(n, 40)


def many_orders():
    """Orders of each n from 1 to 20."""
    return [order for n in range(1, 21) for order in orders_of(n)]


def nested(thing, deep):
    for _ in range(deep):
        thing = [thing]
    return thing


def tuples_no_orders():
    """Tuples that are no orders, new at each call."""
    return [
        (),
        rising(21),
        falling(21),
        rising(22),
        rising(1000),
        # a number twice, left out, beyond n less 1, below nought
        (0, 0),
        (1, 1),
        (0, 1, 1),
        (2, 0, 2),
        (1,),
        (2,),
        (-1,),
        (0, 2),
        (1, 2),
        (1, 2, 3),
        (0, 1, 3),
        (-1, 0),
        (0, -1),
        (0, 1, -1),
        (-1, 0, 1),
        (10 ** 39,),
        (0, 1 - 10 ** 39),
        rising(19) + (18,),
        rising(19) + (20,),
        # a truth in a number's place
        (True,),
        (False,),
        (0, True),
        (True, 0),
        (False, 1),
        (1, False),
        (False, True),
        (True, False),
        (2, True, 0),
        (2, 1, False),
        (0, 1, True),
        (False,) + rising(20)[1:],
        # other kinds within
        (None,),
        (0, None),
        (None, 0),
        ("0",),
        ("0", "1"),
        (0, "1"),
        (1, "", 0),
        ([],),
        ([0],),
        (0, [1]),
        ([1], 0),
        ({},),
        ({0: 0},),
        (0, {1: 1}),
        ((),),
        ((0,),),
        ((0, 1),),
        (0, (1,)),
        ((0,), (1,)),
        ((0, 1), (1, 0)),
        (0, 1, (2,)),
        (nested(0, 7),),
    ]


def things_no_tuples():
    """Things of other kinds than tuples, new at each call."""
    return [
        None,
        True,
        False,
        0,
        1,
        -1,
        20,
        10 ** 39,
        1 - 10 ** 39,
        "",
        "0",
        "01",
        "0 1",
        "(0, 1)",
        "a" * 100,
        [],
        [0],
        [0, 1],
        [1, 0],
        list(range(20)),
        [0] * 1000,
        [(0,)],
        [(0, 1)],
        [None],
        [[0], {1: [2]}],
        nested((0,), 7),
        {},
        {0: 0},
        {0: 1, 1: 0},
        {(0, 1): (0, 1)},
        {"order": [0, 1]},
    ]


def no_orders():
    return tuples_no_orders() + things_no_tuples()
