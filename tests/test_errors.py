"""[0.4]: the classes of the refusals, and their fields."""

import unittest

from fallcounts.errors import (
    FallError,
    NoLine,
    NoNumber,
    NoOrder,
    NoRow,
    NoSet,
    NoText,
    TooGreat,
)

PLAIN = (NoOrder, NoNumber, NoSet, NoRow, NoLine)


class TestClasses(unittest.TestCase):
    def test_fall_error_stands_under_value_error(self):
        self.assertEqual(FallError.__bases__, (ValueError,))

    def test_each_stands_straight_under_fall_error(self):
        for kind in PLAIN + (NoText, TooGreat):
            with self.subTest(kind=kind.__name__):
                self.assertEqual(kind.__bases__, (FallError,))

    def test_each_bears_its_name_and_is_another_class(self):
        names = [kind.__name__ for kind in PLAIN + (NoText, TooGreat)]
        self.assertEqual(
            names,
            ["NoOrder", "NoNumber", "NoSet", "NoRow", "NoLine", "NoText", "TooGreat"],
        )
        self.assertEqual(len(set(PLAIN + (NoText, TooGreat))), 7)


class TestMade(unittest.TestCase):
    def test_plain_ones_are_made_of_nothing(self):
        for kind in PLAIN:
            with self.subTest(kind=kind.__name__):
                with self.assertRaises(ValueError) as caught:
                    raise kind()
                self.assertIs(type(caught.exception), kind)

    def test_no_text_has_its_row(self):
        for row in (0, 1, 21):
            with self.assertRaises(FallError) as caught:
                raise NoText(row)
            self.assertIs(type(caught.exception), NoText)
            self.assertEqual(caught.exception.row, row)

    def test_too_great_has_many_and_most(self):
        for many, most in ((31, 30), (301, 300), (13, 12)):
            with self.assertRaises(FallError) as caught:
                raise TooGreat(many, most)
            self.assertIs(type(caught.exception), TooGreat)
            self.assertEqual(caught.exception.many, many)
            self.assertEqual(caught.exception.most, most)

    def test_fields_are_each_object_s_own(self):
        one, other = TooGreat(31, 30), TooGreat(21, 20)
        self.assertEqual((one.many, one.most), (31, 30))
        self.assertEqual((other.many, other.most), (21, 20))
        self.assertEqual((NoText(1).row, NoText(2).row), (1, 2))

    def test_fields_bear_the_names_of_the_arguments(self):
        self.assertEqual(NoText(row=3).row, 3)
        error = TooGreat(most=12, many=13)
        self.assertEqual((error.many, error.most), (13, 12))


if __name__ == "__main__":
    unittest.main()
