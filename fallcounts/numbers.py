"""What the modules need in common about whole numbers."""

from fallcounts.errors import NoNumber


def is_whole(thing):
    """Tell whether a thing of whatever kind is a whole number."""
    # Python holds True and False for ints, too; here they are no numbers.
    return isinstance(thing, int) and not isinstance(thing, bool)


def is_within(thing, least, most):
    """Tell whether a thing of whatever kind is a whole number from least to most."""
    return is_whole(thing) and least <= thing <= most


def number_needed(thing, least, most):
    """Refuse what is no whole number from least to most."""
    if not is_within(thing, least, most):
        raise NoNumber()


def power_of(base, exponent):
    """Tell a number to the power of another, 0 or more."""
    power = 1
    for step in range(exponent):
        power *= base
    return power


def factorial_of(many):
    """Tell in how many ways so many things stand one behind the other."""
    ways = 1
    for step in range(many):
        ways *= step + 1
    return ways


def ways_out(many, taken):
    """Tell in how many ways so many things are taken out of many, 0 where there are fewer."""
    ways = 1
    for index in range(taken):
        # What is reckoned so far is a number of ways itself, so nothing is lost by dividing.
        ways = ways * (many - index) // (index + 1)
    return ways


def share_of(top, bottom):
    """Tell the share of a number by another, 1 or more, in least terms."""
    common, rest = bottom, abs(top)
    while rest > 0:
        common, rest = rest, common % rest
    return (top // common, bottom // common)
