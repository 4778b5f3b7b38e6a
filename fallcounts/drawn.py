"""Orders built up number by number: put in, told by codes and paths, and drawn by a number."""

from fallcounts.errors import NoRow, TooGreat
from fallcounts.numbers import is_within, number_needed
from fallcounts.orders import MOST_NUMBERS, falls_in, falls_of, order_needed
from fallcounts.triangle import count_of


def put_in(order, spot):
    """Tell the order with one number more, the greatest, at a spot."""
    order_needed(order)
    number_needed(spot, 0, len(order))
    if len(order) == MOST_NUMBERS:
        raise TooGreat(len(order) + 1, MOST_NUMBERS)
    return order[:spot] + (len(order),) + order[spot:]


def still_spots(order):
    """Tell the spots that leave an order as many falls, rising."""
    # Between the two numbers of a fall, or behind all, the greatest one makes no fall more.
    return tuple([place + 1 for place in falls_of(order)]) + (len(order),)


def new_spots(order):
    """Tell the spots that give an order one fall more, rising."""
    still = still_spots(order)
    return tuple([spot for spot in range(len(order)) if spot not in still])


def code_good(thing):
    """Tell whether a thing of whatever kind is a code."""
    if not isinstance(thing, tuple) or not 1 <= len(thing) <= MOST_NUMBERS:
        return False
    for place, number in enumerate(thing):
        if not is_within(number, 0, place):
            return False
    return True


def code_of(order):
    """Tell at each number the place at which it stands among itself and the lesser ones."""
    order_needed(order)
    return tuple([upto_number(order, number).index(number) for number in range(len(order))])


def upto_number(order, most):
    """Tell the numbers of an order, as they stand, without those that are greater than most."""
    return tuple([number for number in order if number <= most])


def order_by(code):
    """Tell the order of a code."""
    if not code_good(code):
        raise NoRow()
    numbers = []
    for number, place in enumerate(code):
        numbers.insert(place, number)
    return tuple(numbers)


def path_good(thing):
    """Tell whether a thing of whatever kind is a path."""
    if not isinstance(thing, tuple) or not 1 <= len(thing) <= MOST_NUMBERS:
        return False
    least, most = 0, 0
    for number in thing:
        if not is_within(number, least, most):
            return False
        least, most = number, number + 1
    return True


def path_of(order):
    """Tell at each number how many falls there are among itself and the lesser ones."""
    order_needed(order)
    return tuple([len(falls_in(upto_number(order, number))) for number in range(len(order))])


def path_many(path):
    """Tell how many orders have a path."""
    if not path_good(path):
        raise NoRow()
    many = 1
    for size in range(1, len(path)):
        falls = path[size - 1]
        # An order of this size with so many falls has one still spot more; all others are new.
        many *= falls + 1 if path[size] == falls else size - falls
    return many


def drawn(n, k, number):
    """Tell the order of n with just k falls that is drawn by a number."""
    number_needed(n, 1, MOST_NUMBERS)
    number_needed(k, 0, MOST_NUMBERS)
    number_needed(number, 0, count_of(n, k) - 1)
    return drawn_by(n, k, number)


def drawn_by(n, k, number):
    """Tell the order that is drawn by a number that is known to have one."""
    if n == 1:
        return (0,)
    kept = kept_many(n, k)
    if number < kept:
        order = drawn_by(n - 1, k, number // (k + 1))
        return put_in(order, still_spots(order)[number % (k + 1)])
    left = number - kept
    order = drawn_by(n - 1, k - 1, left // (n - k))
    return put_in(order, new_spots(order)[left % (n - k)])


def kept_many(n, k):
    """Tell how many orders of n have k falls with their greatest number, and without it."""
    return (k + 1) * count_of(n - 1, k)


def drawn_number(order):
    """Tell the number by which an order is drawn."""
    order_needed(order)
    n, k = len(order), len(falls_in(order))
    if n == 1:
        return 0
    spot = order.index(n - 1)
    fewer = order[:spot] + order[spot + 1:]
    still = still_spots(fewer)
    if spot in still:
        return drawn_number(fewer) * (k + 1) + still.index(spot)
    return kept_many(n, k) + drawn_number(fewer) * (n - k) + new_spots(fewer).index(spot)
