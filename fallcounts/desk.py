"""A desk: it keeps an order, follows deeds, and answers questions."""

from fallcounts.drawn import code_of, drawn_number, new_spots, path_of, put_in, still_spots
from fallcounts.ends import is_zigzag
from fallcounts.errors import NoLine
from fallcounts.listed import next_order, number_of
from fallcounts.numbers import number_needed
from fallcounts.orders import MOST_NUMBERS, back, contrary, falls_many, falls_of, rises_of, runs_of, turned
from fallcounts.rounds import drops_of, laid, lifts_of, rounds_of
from fallcounts.texts import number_read, order_shown
from fallcounts.triangle import count_of


def turn_deed(order):
    """Tell the order turned."""
    return turned(order)


def contrary_deed(order):
    """Tell the contrary order."""
    return contrary(order)


def back_deed(order):
    """Tell the order's back."""
    return back(order)


def lay_deed(order):
    """Tell the order laid."""
    return laid(order)


def next_deed(order):
    """Tell the next order of as many numbers and falls, refuse where there is none."""
    follower = next_order(order)
    if follower is None:
        raise NoLine()
    return follower


def fresh_deed(order, numbers):
    """Tell the order of so many numbers that has no fall."""
    number_needed(numbers[0], 1, MOST_NUMBERS)
    return tuple(range(numbers[0]))


def put_deed(order, numbers):
    """Tell the order with the next number put in at a spot."""
    return put_in(order, numbers[0])


def swap_deed(order, numbers):
    """Tell the order with the numbers at two places exchanged."""
    one, other = numbers
    number_needed(one, 0, len(order) - 1)
    number_needed(other, 0, len(order) - 1)
    changed = list(order)
    changed[one], changed[other] = order[other], order[one]
    return tuple(changed)


def things_told(things):
    """Tell things as words with one blank between each two."""
    return " ".join([str(thing) for thing in things]) if len(things) > 0 else "none"


def groups_told(groups):
    """Tell runs or rounds, the numbers of each joined to one word."""
    return things_told(["-".join([str(number) for number in group]) for group in groups])


def falls_told(order):
    """Answer the falls."""
    return things_told(falls_of(order))


def rises_told(order):
    """Answer the rises."""
    return things_told(rises_of(order))


def lifts_told(order):
    """Answer the lifts."""
    return things_told(lifts_of(order))


def drops_told(order):
    """Answer the drops."""
    return things_told(drops_of(order))


def still_told(order):
    """Answer the still spots."""
    return things_told(still_spots(order))


def new_told(order):
    """Answer the new spots."""
    return things_told(new_spots(order))


def runs_told(order):
    """Answer the runs."""
    return groups_told(runs_of(order))


def rounds_told(order):
    """Answer the rounds."""
    return groups_told(rounds_of(order))


def code_told(order):
    """Answer the code."""
    return things_told(code_of(order))


def path_told(order):
    """Answer the path."""
    return things_told(path_of(order))


def shown_told(order):
    """Answer the order's row."""
    return order_shown(order)


def many_told(order):
    """Answer how many falls there are."""
    return str(falls_many(order))


def count_told(order):
    """Answer how many orders of as many numbers have as many falls."""
    return str(count_of(len(order), falls_many(order)))


def number_told(order):
    """Answer the order's number."""
    return str(number_of(order))


def drawn_told(order):
    """Answer the number by which the order is drawn."""
    return str(drawn_number(order))


def zigzag_told(order):
    """Answer whether the order is a zigzag."""
    return "yes" if is_zigzag(order) else "no"


UNDO = "undo"

PLAIN_DEEDS = {
    "turn": turn_deed,
    "contrary": contrary_deed,
    "back": back_deed,
    "lay": lay_deed,
    "next": next_deed,
}

NUMBER_DEEDS = {"fresh": fresh_deed, "put": put_deed, "swap": swap_deed}

NUMBERS_DUE = {"fresh": 1, "put": 1, "swap": 2}

QUESTIONS = {
    "shown": shown_told,
    "falls": falls_told,
    "rises": rises_told,
    "lifts": lifts_told,
    "drops": drops_told,
    "still": still_told,
    "new": new_told,
    "runs": runs_told,
    "rounds": rounds_told,
    "code": code_told,
    "path": path_told,
    "many": many_told,
    "count": count_told,
    "number": number_told,
    "drawn": drawn_told,
    "zigzag": zigzag_told,
}


def word_known(word):
    """Tell whether a word is that of a deed or of a question."""
    return word == UNDO or word in PLAIN_DEEDS or word in NUMBER_DEEDS or word in QUESTIONS


def line_read(row):
    """Tell the word and the numbers of a row, refuse a thing of whatever kind that is none."""
    if not isinstance(row, str):
        raise NoLine()
    words = row.split(" ")
    numbers = [number_read(word) for word in words[1:]]
    if not word_known(words[0]) or None in numbers or len(numbers) != NUMBERS_DUE.get(words[0], 0):
        raise NoLine()
    return (words[0], numbers)


def changed_by(order, word, numbers):
    """Tell what an order becomes by a deed."""
    if word in PLAIN_DEEDS:
        deed = PLAIN_DEEDS[word]
        return deed(order)
    numbered = NUMBER_DEEDS[word]
    return numbered(order, numbers)


class Desk:
    """An order that is kept, and those that it was ahead of each deed that stands."""

    def __init__(self):
        self.order = (0,)
        self.past = []

    def say(self, row):
        """Follow a deed, or answer a question."""
        word, numbers = line_read(row)
        if word in QUESTIONS:
            question = QUESTIONS[word]
            return question(self.order)
        if word == UNDO:
            self.take_back()
        else:
            self.follow(changed_by(self.order, word, numbers))
        return "ok"

    def follow(self, order):
        """Keep what a deed made of the order."""
        self.past.append(self.order)
        self.order = order

    def take_back(self):
        """Undo the last deed that stands."""
        if len(self.past) == 0:
            raise NoLine()
        self.order = self.past.pop()
