"""[10.2] to [10.4], [0.4]: what a desk refuses, and that it changes nothing then."""

import unittest

from fallcounts.desk import Desk
from fallcounts.errors import NoLine, NoNumber
from fallcounts.listed import next_order

from helper import Asking, things_no_tuples

PLAIN = (
    "turn", "contrary", "back", "lay", "next", "undo", "shown", "falls", "rises", "lifts", "drops", "still", "new",
    "runs", "rounds", "code", "path", "many", "count", "number", "drawn", "zigzag",
)
NUMBERED = {"fresh": 1, "put": 1, "swap": 2}

# Words that are no numbers written as they should be.
NO_NUMBERS = (
    "", "x", "-1", "+1", "-0", "00", "01", "007", "1.", "1.0", "1,", "1a", "a1", "0x1", "1_0", "1e1", "none", "True",
    "1\n", "\n1", "\n", "(1)", "[1]", "\"1\"", "~", "1-2", "N", "0" * 20, "0" * 21, "1" * 21, "9" * 21, "9" * 1900,
)


def no_texts():
    """Things of whatever kind that are no texts, new at each call."""
    found = [thing for thing in things_no_tuples() if not isinstance(thing, str)]
    found += [(), ("shown",), ["shown"], {"shown": "shown"}, ["fresh", "3"], ("fresh", 3), [["turn"]], 3]
    return found


def wrong_rows():
    """Texts that are no rows for a desk."""
    found = ["", " ", "  ", "\n", "x", "hello", "help", "0", "3", "none", "ok", "undone", "sho", "Shown", "SHOWN"]
    for word in PLAIN:
        found += [f"{word} ", f" {word}", f"{word} 0", f"{word} 1 2", f"{word}\n", f"\n{word}", f"{word}0", word.upper()]
        found += [f"{word} {word}", f"{word}\n{word}", f"{word[:-1]} {word[-1]}", word[:-1], f"{word}s", f"{word}  0"]
    for word, many in NUMBERED.items():
        for count in range(5):
            if count != many:
                found.append(" ".join([word] + ["0"] * count))
        right = " ".join([word] + ["1"] * many)
        found += [f"{right} ", f" {right}", f"{right}\n", f"\n{right}", right.replace(" ", "  "), right.upper()]
        found += [right.replace(" ", "\n"), right.replace(" ", ""), f"{right} x", f"{right}\nturn", word, f"{word} "]
        for wrong in NO_NUMBERS:
            for place in range(many):
                words = ["1"] * many
                words[place] = wrong
                found.append(" ".join([word] + words))
    return found


def talked():
    """A desk behind some deeds, and the row that it shows."""
    desk = Desk()
    for row in ("fresh 3", "swap 0 2", "put 1"):
        desk.say(row)
    return desk, "2 3 1 0"


class DeskRefusing(Asking):
    def assert_still(self, desk, row, deeds):
        """The desk shows a row, and so many deeds stand."""
        self.assertEqual(desk.say("shown"), row)
        for _ in range(deeds):
            self.assertEqual(desk.say("undo"), "ok")
        self.assert_refused(NoLine, desk.say, "undo")
        self.assertEqual(desk.say("shown"), "0")


class TestNoLine(DeskRefusing):
    def test_no_text(self):
        for thing in no_texts():
            self.assert_refused(NoLine, Desk().say, thing)
            self.assert_refused(NoLine, talked()[0].say, thing)

    def test_no_row(self):
        # Words that are put together from others' letters may be rows by chance.
        known = set(PLAIN)
        for row in wrong_rows():
            self.assertNotIn(row, known)
            self.assert_refused(NoLine, Desk().say, row)
            self.assert_refused(NoLine, talked()[0].say, row)

    def test_what_is_refused_changes_nothing(self):
        desk, row = talked()
        for thing in no_texts() + wrong_rows():
            with self.assertRaises(NoLine):
                desk.say(thing)
        self.assert_still(desk, row, 3)

    def test_undo_of_none(self):
        desk = Desk()
        self.assert_refused(NoLine, desk.say, "undo")
        desk.say("fresh 2")
        desk.say("undo")
        self.assert_refused(NoLine, desk.say, "undo")
        self.assertEqual(desk.say("shown"), "0")

    def test_next_of_the_last(self):
        for rows in ((), ("fresh 2",), ("fresh 12",), ("fresh 12", "turn"), ("fresh 3", "swap 0 2", "swap 1 2")):
            desk = Desk()
            for row in rows:
                desk.say(row)
            shown = desk.say("shown")
            order = tuple([int(word) for word in shown.split(" ")])
            self.assertIsNone(next_order(order))
            self.assert_refused(NoLine, desk.say, "next")
            self.assert_still(desk, shown, len(rows))


class TestOthers(DeskRefusing):
    def test_fresh(self):
        for wrong in ("0", "21", "22", "100", "9" * 20, "1" + "0" * 19):
            desk, row = talked()
            self.assert_refused(NoNumber, desk.say, f"fresh {wrong}")
            self.assert_still(desk, row, 3)

    def test_put(self):
        for wrong in ("5", "6", "20", "21", "9" * 20):
            desk, row = talked()
            self.assert_refused(NoNumber, desk.say, f"put {wrong}")
            self.assert_still(desk, row, 3)
        desk, row = talked()
        self.assertEqual(desk.say("put 4"), "ok")

    def test_put_into_twenty(self):
        desk = Desk()
        desk.say("fresh 20")
        shown = desk.say("shown")
        for wrong in ("21", "22", "9" * 20):
            self.assert_refused(NoNumber, desk.say, f"put {wrong}")
        for spot in (0, 7, 20):
            self.assert_too_great(21, 20, desk.say, f"put {spot}")
        self.assert_still(desk, shown, 1)

    def test_swap(self):
        for wrong in ("4", "5", "20", "9" * 20):
            for row in (f"swap {wrong} 0", f"swap 0 {wrong}", f"swap {wrong} {wrong}"):
                desk, shown = talked()
                self.assert_refused(NoNumber, desk.say, row)
                self.assert_still(desk, shown, 3)
        desk, shown = talked()
        self.assertEqual(desk.say("swap 3 3"), "ok")
        self.assertEqual(desk.say("shown"), shown)

    def test_next_of_more_than_twelve(self):
        for n in range(13, 21):
            desk = Desk()
            desk.say(f"fresh {n}")
            shown = desk.say("shown")
            self.assert_too_great(n, 12, desk.say, "next")
            self.assert_still(desk, shown, 1)

    def test_number_of_more_than_twelve(self):
        for n in range(13, 21):
            desk = Desk()
            desk.say(f"fresh {n}")
            shown = desk.say("shown")
            self.assert_too_great(n, 12, desk.say, "number")
            self.assert_still(desk, shown, 1)

    def test_no_line_ahead_of_all_else(self):
        desk = Desk()
        desk.say("fresh 20")
        for row in (
            "fresh 21 x", "fresh x", "fresh 021", "put 22 0", "put x", "put 021", "swap 20 x", "swap x 20", "swap 20",
            "swap 20 20 20", "swap 020 20", "next 0", "number 0", "put " + "9" * 21, "fresh " + "9" * 21,
            "swap 20 " + "9" * 21, "swap " + "9" * 21 + " 20",
        ):
            self.assert_refused(NoLine, desk.say, row)

    def test_undo_behind_a_refusal(self):
        desk = Desk()
        desk.say("fresh 3")
        desk.say("turn")
        for row in ("fresh 0", "put 9", "swap 0 9", "next", "wrong"):
            with self.assertRaises(ValueError):
                desk.say(row)
        self.assertEqual(desk.say("undo"), "ok")
        self.assertEqual(desk.say("shown"), "0 1 2")


if __name__ == "__main__":
    unittest.main()
