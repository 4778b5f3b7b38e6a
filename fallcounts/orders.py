"""Orders, their falls and rises, and what they are turned into."""

from fallcounts.errors import NoNumber, NoOrder
from fallcounts.numbers import is_within

MOST_NUMBERS = 20


def order_good(thing):
    """Tell whether a thing of whatever kind is an order."""
    if not isinstance(thing, tuple) or not 1 <= len(thing) <= MOST_NUMBERS:
        return False
    # The kinds are looked at first: lists and dicts can be no members of a set,
    # and a truth would pass there for the number that it equals.
    for number in thing:
        if not is_within(number, 0, len(thing) - 1):
            return False
    return len(set(thing)) == len(thing)


def order_needed(thing):
    """Refuse what is no order."""
    if not order_good(thing):
        raise NoOrder()


def falls_in(numbers):
    """Tell the places of a tuple of numbers whose number is greater than the next one."""
    return tuple([place for place in range(len(numbers) - 1) if numbers[place] > numbers[place + 1]])


def falls_of(order):
    """Tell the places whose number is greater than the next one."""
    order_needed(order)
    return falls_in(order)


def rises_of(order):
    """Tell the places whose number is less than the next one."""
    order_needed(order)
    return tuple([place for place in range(len(order) - 1) if order[place] < order[place + 1]])


def falls_many(order):
    """Tell how many falls an order has."""
    return len(falls_of(order))


def turned(order):
    """Tell the order with the same numbers, the last one first."""
    order_needed(order)
    return order[::-1]


def contrary(order):
    """Tell the order in which the greatest number has become the least, and so on."""
    order_needed(order)
    return tuple([len(order) - 1 - number for number in order])


def back(order):
    """Tell the order that has at each number's place the place at which it stands."""
    order_needed(order)
    places = [0] * len(order)
    for place, number in enumerate(order):
        places[number] = place
    return tuple(places)


def behind(one, other):
    """Tell the order that leads each place by the one order, then by the other."""
    order_needed(one)
    order_needed(other)
    if len(one) != len(other):
        raise NoNumber()
    return tuple([other[number] for number in one])


def runs_of(order):
    """Tell the runs of an order, each ending at a fall or at the last place."""
    ends = list(falls_of(order)) + [len(order) - 1]
    runs = []
    start = 0
    for end in ends:
        runs.append(order[start:end + 1])
        start = end + 1
    return runs
