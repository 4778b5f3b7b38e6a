"""Boxes and cuts: cells by the slab they lie in, and how much of a cube lies there."""

from fallcounts.errors import NoNumber, NoRow
from fallcounts.listed import told_needed
from fallcounts.numbers import factorial_of, is_within, number_needed, power_of, share_of, ways_out
from fallcounts.orders import falls_in
from fallcounts.triangle import count_of

MOST_WIDE = 20
MOST_LONG = 8
MOST_SIDES = 12
MOST_BOTTOM = 1000


def slab_of(m, cell):
    """Tell the sum of a cell's numbers divided by m, rounded down."""
    cell_needed(m, cell)
    return sum(cell) // m


def led(m, cell):
    """Tell the cell of the sums up to each place, each one's rest by m."""
    cell_needed(m, cell)
    sums = []
    total = 0
    for number in cell:
        total = (total + number) % m
        sums.append(total)
    return tuple(sums)


def led_back(m, cell):
    """Tell the cell of which led tells this one."""
    cell_needed(m, cell)
    ahead = (0,) + cell[:-1]
    return tuple([(number - before) % m for number, before in zip(cell, ahead)])


def wraps_of(m, cell):
    """Tell at how many places of a cell its number is less than the one ahead."""
    cell_needed(m, cell)
    return len(falls_in(cell))


def cell_needed(m, thing):
    """Refuse what is no m, then what is no cell of it."""
    number_needed(m, 1, MOST_WIDE)
    if not isinstance(thing, tuple) or not 1 <= len(thing) <= MOST_LONG:
        raise NoRow()
    for number in thing:
        if not is_within(number, 0, m - 1):
            raise NoRow()


def slab_many(n, m, k):
    """Tell how many cells of m with n numbers have just the slab k."""
    slab_needed(n, m, k)
    return slab_count(n, m, k)


def slab_all(n, m, k):
    """Tell all cells of m with n numbers that have just the slab k, rising."""
    slab_needed(n, m, k)
    told_needed(slab_count(n, m, k))
    cells = [()]
    for left in range(n - 1, -1, -1):
        # What is still to come may bring any sum from 0 to so much.
        least = k * m - left * (m - 1)
        most = k * m + m - 1
        longer = [cell + (number,) for cell in cells for number in range(m)]
        cells = [cell for cell in longer if least <= sum(cell) <= most]
    return cells


def slab_needed(n, m, k):
    """Refuse what is no n, then what is no m, then what is no k."""
    number_needed(n, 1, MOST_LONG)
    number_needed(m, 1, MOST_WIDE)
    number_needed(k, 0, MOST_LONG)


def slab_count(n, m, k):
    """Tell how many cells have the slab k, by how many have each sum."""
    counts = [1]
    for place in range(n):
        longer = [0] * (len(counts) + m - 1)
        for total, many in enumerate(counts):
            for number in range(m):
                longer[total + number] += many
        counts = longer
    return sum(counts[k * m:k * m + m])


def cut_upto(n, upto):
    """Tell how much of the cube of n sides has numbers that come to a share or to less."""
    number_needed(n, 1, MOST_SIDES)
    upto_needed(n, upto)
    top, bottom = upto
    # All points without an end would be counted too much: those with one number
    # above 1 are taken away, those with two come back, and so on.
    much = 0
    for beyond in range(top // bottom + 1):
        part = ways_out(n, beyond) * power_of(top - beyond * bottom, n)
        much += -part if beyond % 2 == 1 else part
    return share_of(much, factorial_of(n) * power_of(bottom, n))


def cut_share(n, k):
    """Tell how much of the cube of n sides has numbers that come to k up to k and 1."""
    number_needed(n, 1, MOST_SIDES)
    number_needed(k, 0, MOST_SIDES)
    return share_of(count_of(n, k), factorial_of(n))


def upto_needed(n, thing):
    """Refuse what is no share from 0 to n with a bottom that is taken."""
    if not isinstance(thing, tuple) or len(thing) != 2:
        raise NoNumber()
    top, bottom = thing
    number_needed(bottom, 1, MOST_BOTTOM)
    number_needed(top, 0, n * bottom)
    if share_of(top, bottom) != thing:
        raise NoNumber()
