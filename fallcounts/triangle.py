"""The triangle: how many orders of n have just so many falls."""

from fallcounts.errors import NoRow, TooGreat
from fallcounts.numbers import is_whole, number_needed, power_of, share_of, ways_out

MOST_ROWS = 30


def longer_row(row):
    """Tell the row of one number more."""
    n = len(row) + 1
    # The number n less 1 is put into an order of n less 1: of one with k falls
    # k and 1 spots leave them as many, of one with k less 1 all others make k.
    edged = [0] + row + [0]
    return [(k + 1) * edged[k + 1] + (n - k) * edged[k] for k in range(n)]


def row_of(n):
    """Tell how many orders of n have just k falls, at each k."""
    number_needed(n, 1, MOST_ROWS)
    row = [1]
    while len(row) < n:
        row = longer_row(row)
    return row


def count_of(n, k):
    """Tell how many orders of n have just k falls."""
    numbers_needed(n, k)
    return sum(row_of(n)[k:k + 1])


def upto_count(n, k):
    """Tell how many orders of n have at most k falls."""
    numbers_needed(n, k)
    return sum(row_of(n)[:k + 1])


def numbers_needed(n, k):
    """Refuse what is no n, then what is no k."""
    number_needed(n, 1, MOST_ROWS)
    number_needed(k, 0, MOST_ROWS)


def row_good(thing):
    """Tell whether a thing of whatever kind is a row of the triangle."""
    if not isinstance(thing, list) or not 1 <= len(thing) <= MOST_ROWS:
        return False
    # A truth would pass for the number that it equals.
    for number in thing:
        if not is_whole(number):
            return False
    return thing == row_of(len(thing))


def row_needed(thing):
    """Refuse what is no row of the triangle."""
    if not row_good(thing):
        raise NoRow()


def row_next(row):
    """Tell the row behind a row."""
    row_needed(row)
    if len(row) == MOST_ROWS:
        raise TooGreat(len(row) + 1, MOST_ROWS)
    return longer_row(row)


def row_before(row):
    """Tell the row ahead of a row."""
    row_needed(row)
    if len(row) == 1:
        raise NoRow()
    return row_of(len(row) - 1)


def count_parts(n, k):
    """Tell the numbers, with their signs, that come to count_of together."""
    numbers_needed(n, k)
    return [count_part(n, k, j) for j in range(k + 1)]


def count_part(n, k, j):
    """Tell the number at j of count_parts."""
    part = ways_out(n + 1, j) * power_of(k + 1 - j, n)
    return -part if j % 2 == 1 else part


def mean_falls(n):
    """Tell the share of the falls of all orders of n by how many orders there are."""
    row = row_of(n)
    return share_of(falls_together(row), sum(row))


def spread_of(n):
    """Tell the share of the squared differences from the mean by how many orders there are."""
    row = row_of(n)
    orders = sum(row)
    falls = falls_together(row)
    # Each difference is taken as many times as there are orders, so that it is whole.
    squares = sum([many * (k * orders - falls) ** 2 for k, many in enumerate(row)])
    return share_of(squares, orders ** 3)


def falls_together(row):
    """Tell how many falls all orders of a row have together."""
    return sum([k * many for k, many in enumerate(row)])


def greatest_at(n):
    """Tell the greatest number of the row of n, and all places at which it stands."""
    row = row_of(n)
    many = max(row)
    return (many, tuple([k for k in range(n) if row[k] == many]))
