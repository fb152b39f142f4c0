"""The refusals: points 7 and 25 (the field at), and the interface's part errors.py."""

import unittest

from sparecut import errors
from sparecut.errors import (
    NoBack, NoCut, NoInstead, NoLadder, NoRow, NoTelling, NoText, SpareError, TooGreat, TooMany,
)

BY_TEXT = [NoCut, NoInstead, TooGreat, TooMany, NoTelling, NoRow, NoBack]
BY_NUMBER = [NoLadder, NoText]
ALL = BY_TEXT + BY_NUMBER


def made(kind):
    return kind(3) if kind in BY_NUMBER else kind("why")


class Refusals(unittest.TestCase):
    def test_there_are_nine_by_their_names(self):
        self.assertEqual(
            sorted(kind.__name__ for kind in ALL),
            ["NoBack", "NoCut", "NoInstead", "NoLadder", "NoRow", "NoTelling", "NoText", "TooGreat", "TooMany"],
        )
        for kind in ALL:
            self.assertIs(getattr(errors, kind.__name__), kind)

    def test_each_stands_right_under_spare_error(self):
        self.assertEqual(SpareError.__bases__, (ValueError,))
        for kind in ALL:
            self.assertEqual(kind.__bases__, (SpareError,))

    def test_each_is_of_its_own_class_and_of_none_of_the_other_eight(self):
        for kind in ALL:
            refusal = made(kind)
            self.assertIsInstance(refusal, SpareError)
            self.assertIsInstance(refusal, ValueError)
            self.assertEqual([other for other in ALL if isinstance(refusal, other)], [kind])

    def test_each_can_be_raised_and_caught(self):
        for kind in ALL:
            for caught in (kind, SpareError, ValueError):
                with self.assertRaises(caught):
                    raise made(kind)

    def test_those_made_of_a_text_keep_it(self):
        for kind in BY_TEXT:
            self.assertEqual(str(kind("why so")), "why so")
            self.assertEqual(str(kind("")), "")

    def test_those_made_of_a_number_have_it_as_their_field_at(self):
        for kind in BY_NUMBER:
            for number in (0, 1, 3, 200):
                refusal = kind(number)
                self.assertEqual(refusal.at, number)
                self.assertIs(type(refusal.at), int)


if __name__ == "__main__":
    unittest.main()
