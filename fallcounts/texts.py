"""Orders written as texts, and read from them."""

from fallcounts.errors import NoRow, NoText
from fallcounts.orders import order_good, order_needed

MOST_FIGURES = 20
MOST_ROWS = 20


def order_shown(order):
    """Tell the row that writes an order."""
    order_needed(order)
    return " ".join([str(number) for number in order])


def orders_shown(some):
    """Tell the text that writes a list of orders, a row for each."""
    if not orders_good(some):
        raise NoRow()
    return "\n".join([order_shown(order) for order in some])


def orders_good(thing):
    """Tell whether a thing of whatever kind is a list of orders that can be shown."""
    if not isinstance(thing, list) or not 1 <= len(thing) <= MOST_ROWS:
        return False
    return all([order_good(order) for order in thing])


def orders_read(text):
    """Tell the list of orders that a text writes."""
    if not isinstance(text, str):
        raise NoText(0)
    orders = []
    for row, line in enumerate(text.split("\n"), start=1):
        order = tuple([number_read(word) for word in line.split(" ")])
        if row > MOST_ROWS or not order_good(order):
            raise NoText(row)
        orders.append(order)
    return orders


def number_read(word):
    """Tell the number that a word writes, None where it writes none."""
    # Python takes figures of other scripts for digits, too.
    if not word.isascii() or not word.isdigit() or len(word) > MOST_FIGURES:
        return None
    if word[0] == "0" and len(word) > 1:
        return None
    return int(word)
