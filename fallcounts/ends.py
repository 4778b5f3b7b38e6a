"""Told ends: orders by their falls, their first and their last number; and zigzags."""

from fallcounts.errors import NoRow
from fallcounts.listed import (
    begun_count,
    number_among,
    numbers_needed,
    order_numbered,
    orders_listed,
    rests_of,
    told_needed,
)
from fallcounts.numbers import number_needed
from fallcounts.orders import MOST_NUMBERS, falls_in, falls_of
from fallcounts.sets import just_counter


def first_count(n, k, a):
    """Tell how many orders of n with just k falls have a as their first number."""
    end_needed(n, k, a)
    return begun_count(rests_of(n), k, (a,))


def last_count(n, k, a):
    """Tell how many orders of n with just k falls have a as their last number."""
    end_needed(n, k, a)
    # Turned, they have a first, and fall wherever they rose.
    return begun_count(rests_of(n), n - 1 - k, (a,))


def ends_count(n, k, a, b):
    """Tell how many orders of n with just k falls have a as their first number and b as their last."""
    end_needed(n, k, a)
    number_needed(b, 0, n - 1)
    return ends_counted(rests_of(n), n, k, a, b)


def ends_all(n, k, a, b):
    """Tell all orders of n with just k falls that have a first and b last, rising."""
    told_needed(ends_count(n, k, a, b))
    rests = rests_of(n)
    return orders_listed(n, lambda begun: ends_begun(rests, k, a, b, begun))


def end_needed(n, k, end):
    """Refuse what is no n, then what is no k, then what is no number of an order of n."""
    numbers_needed(n, k)
    number_needed(end, 0, n - 1)


def ends_counted(rests, size, k, first, last):
    """Tell how many orders of a size have k falls and these ends, by rests of that size or a greater one.

    Taken as a ring, in which the last number is followed by the first one, an
    order has as many falls when each number becomes greater by 1, and the
    greatest one becomes 0. So the last number is made the greatest one: it can
    be left out then, and the first number of what stays tells all.
    """
    if size == 1:
        return 1 if k == 0 else 0
    if first == last:
        return 0
    # The ring falls behind its greatest number, and did so behind the last one where that was the greater.
    falls = k if first < last else k - 1
    counts = rests[size - 2][(first - last - 1) % size]
    return counts[falls] if 0 <= falls < len(counts) else 0


def ends_begun(rests, k, first, last, begun):
    """Tell how many orders with k falls and these ends have a beginning, not an empty one, first."""
    stands = begun[:-1]
    if begun[0] != first or last in stands:
        return 0
    size = len(rests) - len(begun)
    falls = k - len(falls_in(begun))
    # What is still to come behind the beginning's last number is an order by ranks.
    return ends_counted(rests, size, falls, rank_beside(stands, begun[-1]), rank_beside(stands, last))


def rank_beside(stands, number):
    """Tell how many numbers less than a number there are but those that stand already."""
    return number - len([one for one in stands if one < number])


def is_zigzag(order):
    """Tell whether an order falls at just the odd places."""
    return falls_of(order) == odd_places(len(order))


def odd_places(n):
    """Tell the odd places at which an order of n can fall, rising."""
    return tuple(range(1, n - 1, 2))


def zigzag_row(n):
    """Tell, at each number, how many zigzags of n have it as their last one."""
    number_needed(n, 1, MOST_NUMBERS)
    row = [1]
    for size in range(2, n + 1):
        # The number ahead is told by its rank among those without the last one.
        falls = (size - 2) in odd_places(n)
        row = [sum(row[last:] if falls else row[:last]) for last in range(size)]
    return row


def zigzag_many(n):
    """Tell how many zigzags of n there are."""
    return sum(zigzag_row(n))


def zigzag_at(n, number):
    """Tell the zigzag of n that has a number."""
    number_needed(number, 0, zigzag_many(n) - 1)
    return order_numbered(n, number, just_counter(n, odd_places(n)))


def zigzag_number(order):
    """Tell the number of a zigzag among those of its n."""
    if not is_zigzag(order):
        raise NoRow()
    return number_among(order, just_counter(len(order), odd_places(len(order))))
