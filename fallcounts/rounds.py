"""Rounds, lifts and drops of orders, and orders counted by them."""

from fallcounts.listed import told_needed
from fallcounts.numbers import number_needed
from fallcounts.orders import order_needed

MOST_NUMBERS = 20
MOST_LISTED = 7


def rounds_of(order):
    """Tell the rounds of an order, by their first numbers rising."""
    order_needed(order)
    rounds = []
    seen = set()
    # From the greatest place down, so that each round is met at its greatest one.
    for place in range(len(order) - 1, -1, -1):
        if place not in seen:
            found = round_from(order, place)
            rounds.append(found)
            for one in found:
                seen.add(one)
    return rounds[::-1]


def round_from(order, first):
    """Tell the round of an order that begins with a place."""
    found = [first]
    while order[found[-1]] != first:
        found.append(order[found[-1]])
    return tuple(found)


def lifts_of(order):
    """Tell the places at which a greater number stands, rising."""
    order_needed(order)
    return tuple([place for place, number in enumerate(order) if number > place])


def drops_of(order):
    """Tell the places at which a lesser number stands, rising."""
    order_needed(order)
    return tuple([place for place, number in enumerate(order) if number < place])


def laid(order):
    """Tell the order whose numbers are those of the rounds, one round behind the other."""
    return tuple([place for found in rounds_of(order) for place in found])


def taken_up(order):
    """Tell the order of which this one is laid."""
    order_needed(order)
    numbers = [0] * len(order)
    first = order[0]
    for place, follower in zip(order, order[1:] + (len(order),)):
        # First numbers rise and are the greatest of their rounds, so a number
        # that is greater than all ahead begins the next round; so does the end.
        if follower > first:
            numbers[place] = first
            first = follower
        else:
            numbers[place] = follower
    return tuple(numbers)


def rounds_count(n, r):
    """Tell how many orders of n have just r rounds."""
    number_needed(n, 1, MOST_NUMBERS)
    number_needed(r, 0, MOST_NUMBERS)
    return sum(both_rows(n)[r]) if r <= n else 0


def both_count(n, r, k):
    """Tell how many orders of n have just r rounds and just k drops."""
    number_needed(n, 1, MOST_NUMBERS)
    counts_needed(r, k)
    return both_counted(n, r, k)


def none_count(n, k):
    """Tell how many orders of n have just k drops and no number at its own place."""
    number_needed(n, 1, MOST_NUMBERS)
    number_needed(k, 0, MOST_NUMBERS)
    before, row = [1] + [0] * MOST_NUMBERS, [0] * (MOST_NUMBERS + 1)
    for size in range(2, n + 1):
        before, row = row, none_row(size, before, row)
    return row[k]


def both_all(n, r, k):
    """Tell all orders of n with just r rounds and just k drops, rising."""
    number_needed(n, 1, MOST_LISTED)
    counts_needed(r, k)
    told_needed(both_counted(n, r, k))
    return sorted(both_found(n, r, k))


def counts_needed(r, k):
    """Refuse what is no number of rounds, then what is no number of drops."""
    number_needed(r, 0, MOST_NUMBERS)
    number_needed(k, 0, MOST_NUMBERS)


def both_counted(n, r, k):
    """Tell how many orders of n have just r rounds and just k drops, r and k being any numbers from 0 on."""
    return both_rows(n)[r][k] if r <= n and k <= n else 0


def both_rows(n):
    """Tell how many orders of n have just r rounds and just k drops, each up to n: rows[r][k]."""
    every = list(range(n + 1))
    rows = [[1 if r == 0 and k == 0 else 0 for k in every] for r in every]
    for size in range(1, n + 1):
        rows = [[both_next(size, rows, r, k) for k in every] for r in every]
    return rows


def both_next(size, rows, r, k):
    """Tell how many orders of a size have r rounds and k drops, by the rows of one number fewer.

    The greatest number is a round by itself, or it is let in behind a place: the
    place has no drop then, and the greatest one has. So a drop there is kept, and
    where there is none the drops are one more.
    """
    alone = rows[r - 1][k] if r > 0 else 0
    behind_others = (size - k) * rows[r][k - 1] if k > 0 else 0
    return alone + k * rows[r][k] + behind_others


def none_row(size, before, row):
    """Tell, by drops, how many orders of a size have no number at its own place.

    row is that of one number fewer: the greatest one is let in as in both_next.
    before is that of two fewer: the greatest one and any other make a round.
    """
    counts = [0] * len(row)
    for k in range(1, len(row)):
        counts[k] = k * row[k] + (size - k) * row[k - 1] + (size - 1) * before[k - 1]
    return counts


def both_found(n, r, k):
    """Tell all orders of n with just r rounds and just k drops, built as both_next counts them."""
    if n == 1:
        return [(0,)] if r == 1 and k == 0 else []
    orders = [order + (n - 1,) for order in both_found(n - 1, r - 1, k)]
    for order in both_found(n - 1, r, k):
        orders += [let_in(order, place) for place in range(n - 1) if order[place] < place]
    for order in both_found(n - 1, r, k - 1):
        orders += [let_in(order, place) for place in range(n - 1) if order[place] >= place]
    return orders


def let_in(order, place):
    """Tell the order with one number more, the greatest, which follows a place in its round."""
    return order[:place] + (len(order),) + order[place + 1:] + (order[place],)
