"""[10.2], [10.3]: the deeds and the questions of a desk."""

import inspect
import random
import unittest

from fallcounts.desk import Desk
from fallcounts.drawn import code_of, drawn_number, new_spots, path_of, still_spots
from fallcounts.ends import is_zigzag
from fallcounts.errors import FallError
from fallcounts.listed import next_order, number_of
from fallcounts.orders import back, contrary, falls_of, rises_of, runs_of, turned
from fallcounts.rounds import drops_of, laid, lifts_of, rounds_of
from fallcounts.triangle import count_of

from helper import Asking, drawn_orders, falling, many_orders, rising

QUESTIONS = (
    "shown", "falls", "rises", "lifts", "drops", "still", "new", "runs", "rounds", "code", "path",
    "many", "count", "number", "drawn", "zigzag",
)


def desk_with(order):
    """A desk that keeps an order, brought there by exchanges."""
    desk = Desk()
    desk.say(f"fresh {len(order)}")
    held = list(range(len(order)))
    for place, number in enumerate(order):
        at = held.index(number)
        desk.say(f"swap {place} {at}")
        held[place], held[at] = held[at], held[place]
    return desk


def shown(order):
    return " ".join([str(number) for number in order])


def joined(things):
    return shown(things) if things else "none"


def joined_groups(groups):
    return " ".join(["-".join([str(number) for number in group]) for group in groups])


def answers_due(order):
    """What a desk with an order of at most twelve numbers answers to each question."""
    falls = falls_of(order)
    return {
        "shown": shown(order),
        "falls": joined(falls),
        "rises": joined(rises_of(order)),
        "lifts": joined(lifts_of(order)),
        "drops": joined(drops_of(order)),
        "still": joined(still_spots(order)),
        "new": joined(new_spots(order)),
        "runs": joined_groups(runs_of(order)),
        "rounds": joined_groups(rounds_of(order)),
        "code": joined(code_of(order)),
        "path": joined(path_of(order)),
        "many": str(len(falls)),
        "count": str(count_of(len(order), len(falls))),
        "number": str(number_of(order)) if len(order) <= 12 else None,
        "drawn": str(drawn_number(order)),
        "zigzag": "yes" if is_zigzag(order) else "no",
    }


class Model:
    """A desk by the deeds that stand alone: each answer is reckoned from the first deed on."""

    def __init__(self):
        self.deeds = []

    def order(self):
        order = (0,)
        for words in self.deeds:
            order = done(order, words)
        return order


def done(order, words):
    numbers = [int(word) for word in words[1:]]
    if words[0] == "fresh":
        return rising(numbers[0])
    if words[0] == "put":
        return order[:numbers[0]] + (len(order),) + order[numbers[0]:]
    if words[0] == "swap":
        held = list(order)
        held[numbers[0]], held[numbers[1]] = held[numbers[1]], held[numbers[0]]
        return tuple(held)
    deeds = {"turn": turned, "contrary": contrary, "back": back, "lay": laid, "next": next_order}
    return deeds[words[0]](order)


class DeskAsking(Asking):
    def assert_shown(self, desk, order):
        self.assertEqual(desk.say("shown"), shown(order))

    def assert_ok(self, desk, *rows):
        for row in rows:
            self.assertEqual(desk.say(row), "ok")


class TestInterface(DeskAsking):
    def test_names_and_arguments(self):
        self.assertEqual(list(inspect.signature(Desk).parameters), [])
        self.assertEqual(list(inspect.signature(Desk().say).parameters), ["row"])


class TestDeeds(DeskAsking):
    def test_at_first(self):
        self.assert_shown(Desk(), (0,))

    def test_fresh(self):
        for n in range(1, 21):
            desk = Desk()
            self.assert_ok(desk, f"fresh {n}")
            self.assert_shown(desk, rising(n))
        desk = desk_with((2, 0, 1))
        self.assert_ok(desk, "fresh 3")
        self.assert_shown(desk, (0, 1, 2))

    def test_put(self):
        desk = Desk()
        for spot, due in ((0, "1 0"), (1, "1 2 0"), (3, "1 2 0 3"), (2, "1 2 4 0 3")):
            self.assert_ok(desk, f"put {spot}")
            self.assertEqual(desk.say("shown"), due)
        desk = desk_with(falling(19))
        self.assert_ok(desk, "put 0")
        self.assert_shown(desk, falling(20))

    def test_swap(self):
        desk = Desk()
        self.assert_ok(desk, "swap 0 0", "fresh 4", "swap 0 3")
        self.assert_shown(desk, (3, 1, 2, 0))
        self.assert_ok(desk, "swap 2 1")
        self.assert_shown(desk, (3, 2, 1, 0))
        self.assert_ok(desk, "swap 2 2")
        self.assert_shown(desk, (3, 2, 1, 0))

    def test_turn_contrary_back_and_lay(self):
        for order in [(0,), (1, 0), (3, 1, 0, 2)] + drawn_orders(13, 3) + drawn_orders(20, 3):
            for word, deed in (("turn", turned), ("contrary", contrary), ("back", back), ("lay", laid)):
                desk = desk_with(order)
                self.assert_ok(desk, word)
                self.assert_shown(desk, deed(order))
        desk = desk_with((3, 1, 0, 2))
        for word, due in (("turn", "2 0 1 3"), ("contrary", "1 3 2 0"), ("back", "3 0 2 1"), ("lay", "2 3 1 0")):
            self.assert_ok(desk, word)
            self.assertEqual(desk.say("shown"), due)

    def test_next(self):
        desk = desk_with((0, 2, 1))
        for due in ((1, 0, 2), (1, 2, 0), (2, 0, 1)):
            self.assert_ok(desk, "next")
            self.assert_shown(desk, due)
        for order in drawn_orders(12, 5):
            desk = desk_with(order)
            self.assert_ok(desk, "next")
            self.assert_shown(desk, next_order(order))


class TestUndo(DeskAsking):
    def test_each_deed(self):
        start = (0, 2, 1)
        for row in ("fresh 5", "put 0", "swap 0 2", "swap 1 1", "turn", "contrary", "back", "lay", "next"):
            desk = desk_with(start)
            self.assert_ok(desk, row, "undo")
            self.assert_shown(desk, start)

    def test_all_deeds(self):
        desk = Desk()
        seen = [desk.say("shown")]
        for row in ("fresh 4", "swap 0 2", "turn", "put 1", "contrary", "swap 3 3", "back", "lay", "fresh 1", "fresh 2"):
            self.assert_ok(desk, row)
            seen.append(desk.say("shown"))
        for due in seen[-2::-1]:
            self.assert_ok(desk, "undo")
            self.assertEqual(desk.say("shown"), due)
        with self.assertRaises(FallError):
            desk.say("undo")
        self.assert_shown(desk, (0,))

    def test_a_deed_that_changes_nothing_stands_too(self):
        desk = Desk()
        self.assert_ok(desk, "fresh 3", "swap 1 1", "fresh 3", "back")
        self.assert_ok(desk, "undo", "undo", "undo")
        self.assert_shown(desk, (0, 1, 2))
        self.assert_ok(desk, "undo")
        self.assert_shown(desk, (0,))

    def test_undo_is_not_undone(self):
        desk = Desk()
        self.assert_ok(desk, "fresh 2", "fresh 3", "fresh 4", "undo", "undo")
        self.assert_shown(desk, (0, 1))
        self.assert_ok(desk, "fresh 5", "undo")
        self.assert_shown(desk, (0, 1))
        self.assert_ok(desk, "undo")
        self.assert_shown(desk, (0,))

    def test_questions_are_no_deeds(self):
        desk = Desk()
        self.assert_ok(desk, "fresh 3", "turn")
        for word in QUESTIONS:
            desk.say(word)
        self.assert_ok(desk, "undo")
        self.assert_shown(desk, (0, 1, 2))


class TestQuestions(DeskAsking):
    def test_told_answers(self):
        desk = desk_with((3, 1, 0, 2))
        told = {
            "shown": "3 1 0 2",
            "falls": "0 1",
            "rises": "2",
            "lifts": "0",
            "drops": "2 3",
            "still": "1 2 4",
            "new": "0 3",
            "runs": "3 1 0-2",
            "rounds": "1 3-2-0",
            "code": "0 0 2 0",
            "path": "0 1 1 2",
            "many": "2",
            "count": "11",
            "number": "8",
            "drawn": "5",
            "zigzag": "no",
        }
        self.assertEqual({word: desk.say(word) for word in QUESTIONS}, told)

    def test_nothing_to_answer(self):
        desk = Desk()
        told = {
            "shown": "0",
            "falls": "none",
            "rises": "none",
            "lifts": "none",
            "drops": "none",
            "still": "1",
            "new": "0",
            "runs": "0",
            "rounds": "0",
            "code": "0",
            "path": "0",
            "many": "0",
            "count": "1",
            "number": "0",
            "drawn": "0",
            "zigzag": "yes",
        }
        self.assertEqual({word: desk.say(word) for word in QUESTIONS}, told)
        self.assert_ok(desk, "fresh 12")
        self.assertEqual([desk.say(word) for word in ("falls", "lifts", "drops")], ["none"] * 3)
        self.assert_ok(desk, "turn")
        self.assertEqual(desk.say("rises"), "none")

    def test_each_question_of_many_orders(self):
        orders = [order for order in many_orders() if len(order) <= 4 or order[0] == 2]
        for order in orders + [rising(20), falling(20), rising(12), falling(12)]:
            desk = desk_with(order)
            for word, due in answers_due(order).items():
                if due is not None:
                    self.assertEqual(desk.say(word), due)

    def test_a_number_of_more_than_twelve_is_refused(self):
        for n in range(13, 21):
            desk = desk_with(falling(n))
            self.assert_too_great(n, 12, desk.say, "number")
            self.assert_shown(desk, falling(n))
        desk = desk_with(falling(12))
        self.assertEqual(desk.say("number"), "0")

    def test_a_question_changes_nothing(self):
        for order in ((0,), (3, 1, 0, 2), (0, 2, 1), falling(12)):
            desk = desk_with(order)
            due = answers_due(order)
            for word in QUESTIONS:
                self.assertEqual(desk.say(word), due[word])
                self.assertEqual(desk.say(word), due[word])
                self.assert_shown(desk, order)

    def test_answers_are_texts(self):
        desk = desk_with((3, 1, 0, 2))
        for word in QUESTIONS + ("turn", "undo"):
            self.assertIs(type(desk.say(word)), str)


class TestStands(DeskAsking):
    """[10.4]: what a desk answers hangs on the deeds that stand alone."""

    def test_long_talks(self):
        source = random.Random(5)
        for _ in range(30):
            desk, model = Desk(), Model()
            for _ in range(60):
                self.tell(desk, model, source)
                order = model.order()
                word = source.choice(QUESTIONS)
                if word == "number" and len(order) > 12:
                    self.assert_too_great(len(order), 12, desk.say, "number")
                else:
                    self.assertEqual(desk.say(word), answers_due(order)[word])
                self.assert_shown(desk, order)

    def tell(self, desk, model, source):
        """Tell both one deed, perhaps one that is refused."""
        order = model.order()
        some = source.randrange(len(order))
        rows = ["turn", "contrary", "back", "lay", "next", "undo", f"fresh {source.randrange(1, 21)}"]
        rows += [f"put {some}", f"swap {some} {source.randrange(len(order))}", f"swap 0 {len(order)}", "fresh 0", "x"]
        row = source.choice(rows)
        stands = row not in ("fresh 0", "x", f"swap 0 {len(order)}")
        if row == "next":
            stands = len(order) <= 12 and next_order(order) is not None
        if row == "undo":
            stands = len(model.deeds) > 0
        if row.startswith("put"):
            stands = len(order) < 20
        if not stands:
            with self.assertRaises(FallError):
                desk.say(row)
            return
        self.assertEqual(desk.say(row), "ok")
        if row == "undo":
            model.deeds.pop()
        else:
            model.deeds.append(row.split(" "))

    def test_two_desks_have_nothing_in_common(self):
        one, other = Desk(), Desk()
        self.assert_ok(one, "fresh 3", "turn")
        self.assert_shown(other, (0,))
        with self.assertRaises(FallError):
            other.say("undo")
        self.assert_ok(other, "fresh 5")
        self.assert_shown(one, (2, 1, 0))
        self.assert_ok(one, "undo", "undo")
        self.assert_shown(other, rising(5))
        self.assert_shown(Desk(), (0,))

    def test_same_talk_same_answers(self):
        rows = ("fresh 6", "swap 1 4", "lay", "put 3", "drawn", "undo", "back", "number", "runs", "next", "shown")
        one, other = Desk(), Desk()
        answers = [one.say(row) for row in rows]
        self.assertEqual([other.say(row) for row in rows], answers)
        self.assertEqual([Desk().say("shown") for _ in range(2)], ["0", "0"])


if __name__ == "__main__":
    unittest.main()
