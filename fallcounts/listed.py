"""Orders of so many falls, listed and numbered.

Orders are never gone through: of each beginning it is counted how many orders
have it first, and a list or a number is built up from beginnings alone.
"""

from fallcounts.errors import NoRow, TooGreat
from fallcounts.numbers import is_within, number_needed
from fallcounts.orders import falls_in, order_needed

MOST_LISTED = 12
MOST_TOLD = 300


def orders_all(n, k):
    """Tell all orders of n with just k falls, rising."""
    numbers_needed(n, k)
    many_with = counter_of(n, k)
    told_needed(many_with(()))
    return orders_listed(n, many_with)


def order_at(n, k, number):
    """Tell the order of a number among those of n with just k falls."""
    numbers_needed(n, k)
    many_with = counter_of(n, k)
    number_needed(number, 0, many_with(()) - 1)
    return order_numbered(n, number, many_with)


def number_of(order):
    """Tell the number of an order among those of its n with as many falls."""
    listed_needed(order)
    return number_among(order, counter_of(len(order), len(falls_in(order))))


def next_order(order):
    """Tell the next order of as many numbers and falls, None behind the last one."""
    listed_needed(order)
    many_with = counter_of(len(order), len(falls_in(order)))
    number = number_among(order, many_with) + 1
    if number == many_with(()):
        return None
    return order_numbered(len(order), number, many_with)


def begun_many(n, k, begun):
    """Tell how many orders of n with just k falls have a beginning first."""
    numbers_needed(n, k)
    beginning_needed(n, begun)
    return begun_count(rests_of(n), k, begun)


def next_numbers(n, k, begun):
    """Tell the numbers that can stand behind a beginning, rising."""
    numbers_needed(n, k)
    beginning_needed(n, begun)
    return [longer[-1] for longer in longer_ones(n, begun, counter_of(n, k))]


def numbers_needed(n, k):
    """Refuse what is no n, then what is no k."""
    number_needed(n, 1, MOST_LISTED)
    number_needed(k, 0, MOST_LISTED)


def listed_needed(order):
    """Refuse what is no order, then an order of too many numbers."""
    order_needed(order)
    if len(order) > MOST_LISTED:
        raise TooGreat(len(order), MOST_LISTED)


def told_needed(many):
    """Refuse to tell more things than are told at once."""
    if many > MOST_TOLD:
        raise TooGreat(many, MOST_TOLD)


def beginning_good(n, thing):
    """Tell whether a thing of whatever kind is a beginning for n."""
    if not isinstance(thing, tuple) or len(thing) > n:
        return False
    # Lists and dicts can be no members of a set, so the kinds are looked at first.
    for number in thing:
        if not is_within(number, 0, n - 1):
            return False
    return len(set(thing)) == len(thing)


def beginning_needed(n, thing):
    """Refuse what is no beginning for n."""
    if not beginning_good(n, thing):
        raise NoRow()


def rests_of(n):
    """Tell in how many ways orders go on, by what they have still ahead.

    rests[left][lower][falls]: so many numbers are left, so many of these are
    less than the last number that stands, and so many falls are still to come.
    """
    rests = [[[1]]]
    for left in range(1, n + 1):
        rests.append([rest_counts(rests[-1], lower) for lower in range(left + 1)])
    return rests


def rest_counts(fewer, lower):
    """Tell, by falls to come, in how many ways orders go on, from the rests with one number fewer."""
    counts = [0] * (len(fewer) + 1)
    for rank, rest in enumerate(fewer):
        # The next number is less than the last one where its rank among those left is below lower.
        fall = 1 if rank < lower else 0
        for falls, many in enumerate(rest):
            counts[falls + fall] += many
    return counts


def begun_count(rests, k, begun):
    """Tell how many orders with just k falls have a beginning first, by the rests of their n."""
    # Nothing ahead is as good as a number ahead that is less than all: no fall comes of it.
    counts = rests[len(rests) - 1 - len(begun)][lower_left(begun)]
    falls = k - len(falls_in(begun))
    return counts[falls] if 0 <= falls < len(counts) else 0


def lower_left(begun):
    """Tell how many numbers that are not in a beginning are less than its last one."""
    if len(begun) == 0:
        return 0
    return begun[-1] - len([number for number in begun if number < begun[-1]])


def counter_of(n, k):
    """Tell a function that counts the orders of n with just k falls by their beginning."""
    rests = rests_of(n)
    return lambda begun: begun_count(rests, k, begun)


def longer_ones(n, begun, many_with):
    """Tell the beginnings for n that are longer by one and that some order has, rising."""
    longer = [begun + (number,) for number in range(n) if number not in begun]
    return [one for one in longer if many_with(one) > 0]


def orders_listed(n, many_with):
    """Tell all orders of n that many_with counts, rising."""
    orders = [()]
    for place in range(n):
        orders = [longer for begun in orders for longer in longer_ones(n, begun, many_with)]
    return orders


def order_numbered(n, number, many_with):
    """Tell the order of n ahead of which so many others that many_with counts stand."""
    begun = ()
    for place in range(n):
        for longer in longer_ones(n, begun, many_with):
            many = many_with(longer)
            if number < many:
                begun = longer
                break
            number -= many
    return begun


def number_among(order, many_with):
    """Tell ahead of an order how many others that many_with counts stand."""
    number = 0
    for place in range(len(order)):
        for longer in longer_ones(len(order), order[:place], many_with):
            if longer[-1] < order[place]:
                number += many_with(longer)
    return number
