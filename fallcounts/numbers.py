"""What the modules need in common about whole numbers."""


def is_whole(thing):
    """Tell whether a thing of whatever kind is a whole number."""
    # Python holds True and False for ints, too; here they are no numbers.
    return isinstance(thing, int) and not isinstance(thing, bool)


def is_within(thing, least, most):
    """Tell whether a thing of whatever kind is a whole number from least to most."""
    return is_whole(thing) and least <= thing <= most
