"""Powers and their sums by the triangle, and rows of numbers sorted by an order."""

from fallcounts.errors import NoRow
from fallcounts.numbers import factorial_of, is_within, number_needed, share_of, ways_out
from fallcounts.orders import falls_in, order_needed
from fallcounts.triangle import row_of

MOST_BASE = 1000000
MOST_PICKED = 30
MOST_POWER = 20
MOST_SHARED = 12
MOST_SORTED = 12


def picks(x, n):
    """Tell in how many ways n things are taken out of x."""
    number_needed(x, 0, MOST_BASE)
    number_needed(n, 0, MOST_PICKED)
    return ways_out(x, n)


def power_parts(x, n):
    """Tell the parts, one for each number of falls, that come to x to the power of n."""
    base_needed(x, n)
    return [many * ways_out(x + k, n) for k, many in enumerate(row_of(n))]


def sum_parts(m, n):
    """Tell the parts, one for each number of falls, that come to powers_sum."""
    base_needed(m, n)
    return [many * ways_out(m + k + 1, n + 1) for k, many in enumerate(row_of(n))]


def powers_sum(m, n):
    """Tell the sum of x to the power of n over all x from 1 to m."""
    return sum(sum_parts(m, n))


def base_needed(base, n):
    """Refuse what is no base, then what is no power."""
    number_needed(base, 0, MOST_BASE)
    number_needed(n, 1, MOST_POWER)


def sum_shares(n):
    """Tell by which shares of the powers of m, from 0 on, the sum of the powers of n up to m is told."""
    number_needed(n, 1, MOST_SHARED)
    tops = [0] * (n + 2)
    for k, many in enumerate(row_of(n)):
        for power, number in enumerate(stairs_product(k + 1, n + 1)):
            tops[power] += many * number
    # Each part of sum_parts is such a product by so much.
    return tuple([share_of(top, factorial_of(n + 1)) for top in tops])


def stairs_product(first, many):
    """Tell, by powers of m, the product of m and first, of m and first less 1, and so on, of so many."""
    numbers = [1]
    for step in range(many):
        added = first - step
        numbers = [added * same + lower for same, lower in zip(numbers + [0], [0] + numbers)]
    return numbers


def sorted_by(row):
    """Tell the order of a row's places by their numbers, and its numbers in that order."""
    row_needed(row)
    # Pairs compare by their numbers first, so like numbers stand by their places.
    pairs = sorted([(number, place) for place, number in enumerate(row)])
    return (tuple([place for number, place in pairs]), tuple([number for number, place in pairs]))


def row_with(order, thing):
    """Tell the row of which sorted_by tells this order and this thing."""
    order_needed(order)
    row_needed(thing)
    if len(thing) != len(order) or not rises_by(order, thing):
        raise NoRow()
    row = [0] * len(order)
    for place, number in zip(order, thing):
        row[place] = number
    return tuple(row)


def rises_by(order, numbers):
    """Tell whether numbers nowhere fall, and rise at each fall of an order."""
    falls = falls_in(order)
    for place in range(len(numbers) - 1):
        # Like numbers stand by their places, so the order can't fall between them.
        least = numbers[place] + 1 if place in falls else numbers[place]
        if numbers[place + 1] < least:
            return False
    return True


def row_needed(thing):
    """Refuse what is no row of numbers to be sorted."""
    if not isinstance(thing, tuple) or not 1 <= len(thing) <= MOST_SORTED:
        raise NoRow()
    for number in thing:
        if not is_within(number, 0, MOST_BASE):
            raise NoRow()
