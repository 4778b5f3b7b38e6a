"""[0.2], [0.4]: what holds over the whole program, whatever is asked, and in whichever order."""

import copy
import unittest

from fallcounts import boxes, drawn, ends, listed, orders, powers, rounds, sets, texts, triangle
from fallcounts.desk import Desk
from fallcounts.errors import FallError

from helper import falling, rising

ORDER = (3, 1, 0, 2)
LONG = falling(20)


def questions():
    """A question, at least, to each function of the interface, with new things at each call."""
    found = []
    for order in (ORDER, LONG, (0,)):
        for ask in (orders.order_good, orders.falls_of, orders.rises_of, orders.falls_many, orders.turned,
                    orders.contrary, orders.back, orders.runs_of, rounds.rounds_of, rounds.lifts_of, rounds.drops_of,
                    rounds.laid, rounds.taken_up, ends.is_zigzag, drawn.still_spots, drawn.new_spots, drawn.code_of,
                    drawn.path_of, drawn.drawn_number, texts.order_shown):
            found.append((ask, (order,)))
    for n in (1, 5, 8):
        for ask in (triangle.row_of, triangle.mean_falls, triangle.spread_of, triangle.greatest_at, powers.sum_shares,
                    ends.zigzag_row, ends.zigzag_many):
            found.append((ask, (n,)))
        for ask in (triangle.count_of, triangle.upto_count, triangle.count_parts, listed.orders_all, sets.sets_of,
                    powers.picks, powers.power_parts, powers.sum_parts, powers.powers_sum, boxes.cut_share,
                    rounds.rounds_count, rounds.none_count):
            found.append((ask, (n, 1)))
        for ask in (sets.set_good, sets.just_many, sets.within_many, sets.just_all, sets.first_with, sets.last_with,
                    sets.sizes_of):
            found.append((ask, (n, ())))
        found += [(ends.first_count, (n, 1, 0)), (ends.last_count, (n, 1, 0)), (ends.zigzag_at, (n, 0))]
        found += [(ends.ends_count, (n, 1, 0, n - 1)), (rounds.both_count, (n, 2, 1)), (boxes.cut_upto, (n, (1, 2)))]
    return found + [
        (orders.behind, (ORDER, ORDER)),
        (triangle.row_good, ([1, 4, 1],)),
        (triangle.row_next, ([1, 4, 1],)),
        (triangle.row_before, ([1, 4, 1],)),
        (listed.order_at, (7, 3, 500)),
        (listed.number_of, (ORDER,)),
        (listed.next_order, (ORDER,)),
        (listed.begun_many, (7, 3, (4, 1))),
        (listed.next_numbers, (7, 3, (4, 1))),
        (sets.set_by, ((2, 1, 3),)),
        (sets.most_sets, (6,)),
        (sets.just_at, (7, (1, 3), 5)),
        (powers.sorted_by, ((5, 2, 5, 0),)),
        (powers.row_with, ((1, 0), (4, 7))),
        (boxes.slab_of, (5, (4, 3, 4))),
        (boxes.led, (5, (4, 3, 4))),
        (boxes.led_back, (5, (4, 3, 4))),
        (boxes.wraps_of, (5, (4, 3, 4))),
        (boxes.slab_many, (8, 20, 4)),
        (boxes.slab_all, (3, 4, 1)),
        (rounds.both_all, (5, 2, 2)),
        (ends.ends_all, (6, 2, 1, 4)),
        (ends.zigzag_number, ((1, 2, 0),)),
        (drawn.put_in, (ORDER, 2)),
        (drawn.code_good, ((0, 1, 0),)),
        (drawn.order_by, ((0, 1, 0),)),
        (drawn.path_good, ((0, 1, 1),)),
        (drawn.path_many, ((0, 1, 1),)),
        (drawn.drawn, (20, 9, 10 ** 15)),
        (texts.orders_shown, ([ORDER, (0,), LONG],)),
        (texts.orders_read, ("2 0 1\n0",)),
    ]


def refused():
    """Questions that are refused, one at least of each class."""
    return [
        (orders.falls_of, ((0, 0),)),
        (orders.behind, ((0,), (0, 1))),
        (triangle.row_of, (31,)),
        (triangle.row_next, (triangle.row_of(30),)),
        (triangle.row_before, ([1],)),
        (listed.orders_all, (12, 5)),
        (listed.number_of, (LONG,)),
        (sets.just_all, (12, (1, 3, 5))),
        (sets.just_many, (3, (2,))),
        (powers.row_with, ((1, 0), (4, 4))),
        (boxes.slab_all, (8, 20, 4)),
        (boxes.led, (5, (5,))),
        (rounds.both_all, (7, 3, 4)),
        (ends.ends_all, (12, 5, 3, 7)),
        (ends.zigzag_number, ((1, 0),)),
        (drawn.put_in, (LONG, 0)),
        (drawn.drawn, (5, 5, 0)),
        (texts.orders_shown, ([],)),
        (texts.orders_read, ("1",)),
        (Desk().say, ("undo",)),
    ]


def told(some):
    return [ask(*things) for ask, things in some]


def spoil(answer):
    """Change each list that is told, those within it too."""
    if isinstance(answer, (list, tuple)):
        for thing in answer:
            spoil(thing)
    if isinstance(answer, list):
        answer.append("spoilt")
        answer.reverse()


class TestWhole(unittest.TestCase):
    def test_same_question_same_answer_in_whichever_order(self):
        due = told(questions())
        self.assertEqual(told(questions()), due)
        self.assertEqual(told(questions()[::-1])[::-1], due)
        self.assertEqual(told(questions()[::2]), due[::2])

    def test_refusals_in_between_change_nothing(self):
        due = told(questions())
        for ask, things in refused():
            with self.subTest(ask=ask.__name__):
                with self.assertRaises(FallError):
                    ask(*things)
                self.assertEqual(told(questions()[::7]), due[::7])
        self.assertEqual(told(questions()), due)

    def test_what_is_told_is_the_asker_s_own(self):
        due = copy.deepcopy(told(questions()))
        for answer in told(questions()):
            spoil(answer)
        self.assertEqual(told(questions()), due)

    def test_what_is_handed_in_is_not_changed(self):
        for ask, things in questions() + refused():
            kept = copy.deepcopy(things)
            try:
                ask(*things)
            except FallError:
                pass
            self.assertEqual(things, kept)
            self.assertEqual(repr(things), repr(kept))

    def test_what_is_done_behind_a_call_changes_nothing(self):
        row, some = [1, 4, 1], [ORDER, (0,)]
        later, text = triangle.row_next(row), texts.orders_shown(some)
        row.clear()
        some.clear()
        self.assertEqual(later, [1, 11, 11, 1])
        self.assertEqual(text, "3 1 0 2\n0")

    def test_a_desk_is_not_reached_by_other_questions(self):
        desk = Desk()
        desk.say("fresh 5")
        desk.say("swap 1 3")
        due = [desk.say(word) for word in ("shown", "rounds", "runs", "number", "drawn")]
        told(questions())
        Desk().say("fresh 7")
        self.assertEqual([desk.say(word) for word in ("shown", "rounds", "runs", "number", "drawn")], due)

    def test_one_order_on_many_ways(self):
        """What the package tells of an order leads back to it."""
        for order in (ORDER, rising(12), falling(12), (5, 2, 8, 0, 11, 3, 1, 10, 4, 9, 7, 6)):
            n, k = len(order), orders.falls_many(order)
            self.assertEqual(listed.order_at(n, k, listed.number_of(order)), order)
            self.assertEqual(drawn.drawn(n, k, drawn.drawn_number(order)), order)
            self.assertEqual(drawn.order_by(drawn.code_of(order)), order)
            self.assertEqual(rounds.taken_up(rounds.laid(order)), order)
            self.assertEqual(powers.row_with(order, rising(n)), orders.back(order))
            self.assertEqual(texts.orders_read(texts.orders_shown([order])), [order])
            self.assertEqual(orders.behind(order, orders.back(order)), rising(n))


if __name__ == "__main__":
    unittest.main()
