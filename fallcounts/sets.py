"""Told falls: the orders of n that fall at just the places of a set."""

from fallcounts.errors import NoRow, NoSet
from fallcounts.listed import lower_left, order_numbered, orders_listed, told_needed
from fallcounts.numbers import is_whole, is_within, number_needed, ways_out
from fallcounts.orders import falls_in

MOST_NUMBERS = 12
MOST_COMPARED = 10


def set_good(n, thing):
    """Tell whether a thing of whatever kind is a set of n."""
    number_needed(n, 1, MOST_NUMBERS)
    if not isinstance(thing, tuple):
        return False
    least = 0
    for place in thing:
        if not is_within(place, least, n - 2):
            return False
        least = place + 1
    return True


def set_needed(n, thing):
    """Refuse what is no n, then what is no set of it."""
    if not set_good(n, thing):
        raise NoSet()


def just_many(n, some):
    """Tell how many orders of n have just these falls."""
    set_needed(n, some)
    return just_count(set_rests(n, some), some, ())


def within_many(n, some):
    """Tell how many orders of n have no other falls than these."""
    many = 1
    left = n
    # Each run may have any numbers of those left; how they stand in it is no choice.
    for size in sizes_of(n, some):
        many *= ways_out(left, size)
        left -= size
    return many


def just_all(n, some):
    """Tell all orders of n with just these falls, rising."""
    set_needed(n, some)
    many_with = just_counter(n, some)
    told_needed(many_with(()))
    return orders_listed(n, many_with)


def first_with(n, some):
    """Tell the first order of n with just these falls."""
    set_needed(n, some)
    return order_numbered(n, 0, just_counter(n, some))


def last_with(n, some):
    """Tell the last order of n with just these falls."""
    set_needed(n, some)
    many_with = just_counter(n, some)
    return order_numbered(n, many_with(()) - 1, many_with)


def just_at(n, some, number):
    """Tell the order of a number among those of n with just these falls."""
    set_needed(n, some)
    many_with = just_counter(n, some)
    number_needed(number, 0, many_with(()) - 1)
    return order_numbered(n, number, many_with)


def sizes_of(n, some):
    """Tell how many numbers each run of an order of n with just these falls has."""
    set_needed(n, some)
    starts = (0,) + tuple([place + 1 for place in some])
    ends = starts[1:] + (n,)
    return tuple([end - start for start, end in zip(starts, ends)])


def set_by(sizes):
    """Tell the n, and the set of it, of which sizes_of tells these sizes."""
    if not sizes_good(sizes):
        raise NoRow()
    some = []
    n = 0
    for size in sizes:
        n += size
        some.append(n - 1)
    # The last run ends with the order, not at a fall.
    return (n, tuple(some[:-1]))


def sizes_good(thing):
    """Tell whether a thing of whatever kind is a tuple of sizes of runs."""
    if not isinstance(thing, tuple) or len(thing) == 0:
        return False
    for size in thing:
        if not is_whole(size) or size < 1:
            return False
    return sum(thing) <= MOST_NUMBERS


def sets_of(n, k):
    """Tell all sets of n with just k places, rising."""
    number_needed(n, 1, MOST_NUMBERS)
    number_needed(k, 0, MOST_NUMBERS)
    sets = [()]
    for step in range(k):
        sets = [some + (place,) for some in sets for place in places_behind(n, some)]
    return sets


def places_behind(n, some):
    """Tell the places of n that are greater than all of a set, rising."""
    return list(range(some[-1] + 1 if some else 0, n - 1))


def most_sets(n):
    """Tell the greatest just_many of any set of n, and all sets that have it."""
    number_needed(n, 1, MOST_COMPARED)
    sets = sorted([some for k in range(n) for some in sets_of(n, k)])
    counts = [just_many(n, some) for some in sets]
    many = max(counts)
    return (many, tuple([some for some, count in zip(sets, counts) if count == many]))


def set_rests(n, some):
    """Tell in how many ways orders with just these falls go on, by what they have still ahead.

    rests[left][lower]: so many numbers are left, and so many of these are less
    than the last number that stands.
    """
    rests = [[1]]
    for left in range(1, n):
        fewer = rests[-1]
        falls = (n - 1 - left) in some
        rests.append([sum(fewer[:lower] if falls else fewer[lower:]) for lower in range(left + 1)])
    return rests


def just_count(rests, some, begun):
    """Tell how many orders with just these falls have a beginning first, by their rests."""
    if len(begun) == 0:
        return sum(rests[-1])
    if falls_in(begun) != tuple([place for place in some if place < len(begun) - 1]):
        return 0
    return rests[len(rests) - len(begun)][lower_left(begun)]


def just_counter(n, some):
    """Tell a function that counts the orders of n with just these falls by their beginning."""
    rests = set_rests(n, some)
    return lambda begun: just_count(rests, some, begun)
