"""Point 9: what rows stand on, what is needed, the ladder trimmed; point 3 of the ladder trimmed."""

import unittest

from sparecut.ladders import is_ladder
from sparecut.standing import needed, stands_on, trimmed
from tests.helper import (
    BOOK, LADDER, asked_twice, claims_plainly, fault_plainly, picked_plainly, some_ladders, under_plainly,
)

# Needed for the last row are the rows 0, 2, 3 and 9 alone.
SPARE = [
    ("book", 0), ("book", 3), ("book", 1), ("cut", 0, 2, 1), ("book", 2), ("cut", 3, 4, 2), ("book", 4),
    ("book", 1), ("cut", 6, 7, 1), ("book", 2), ("cut", 3, 9, 2),
]
SPARE_BOOK = ((1, 2), (-1, 2), (-2, 3), (-3,), (1, 4))


class StandingOn(unittest.TestCase):
    def test_an_ordinary_ladder(self):
        self.assertEqual(stands_on(BOOK, LADDER), [[0], [1], [0, 1], [2], [0, 1, 2], [3], [0, 1, 2, 3]])

    def test_a_row_of_the_book_stands_on_its_own_one(self):
        self.assertEqual(stands_on(BOOK, [("book", 5), ("book", 0)]), [[5], [0]])

    def test_each_list_is_rising_with_none_twice(self):
        book = ((-2,), (-1, 2), (1, 2))
        ladder = [("book", 2), ("book", 1), ("cut", 0, 1, 1), ("book", 0), ("cut", 2, 3, 2)]
        self.assertEqual(stands_on(book, ladder), [[2], [1], [1, 2], [0], [0, 1, 2]])
        book = ((1, 2), (-1, 2), (-2, 1), (-2, -1))
        ladder = [
            ("book", 0), ("book", 1), ("cut", 0, 1, 1), ("book", 2), ("cut", 2, 3, 2), ("cut", 4, 1, 1),
        ]
        self.assertEqual(stands_on(book, ladder)[5], [0, 1, 2])

    def test_alike_claims_keep_their_own_numbers(self):
        book = ((1,), (1,), (-1,))
        ladder = [("book", 1), ("book", 2), ("cut", 0, 1, 1), ("book", 0)]
        self.assertEqual(stands_on(book, ladder), [[1], [2], [1, 2], [0]])

    def test_the_lists_are_all_new_ones(self):
        told = asked_twice(self, stands_on, BOOK, [("book", 0), ("book", 0), ("book", 1), ("cut", 0, 2, 1)])
        self.assertEqual(told, [[0], [0], [1], [0, 1]])
        told[0].append(9)
        self.assertEqual(told, [[0, 9], [0], [1], [0, 1]])

    def test_by_chance(self):
        for book, ladder in some_ladders():
            right = []
            for number in range(len(ladder)):
                rows = [ladder[at] for at in under_plainly(ladder, number)]
                right.append(sorted({row[1] for row in rows if row[0] == "book"}))
            told = asked_twice(self, stands_on, book, ladder)
            self.assertEqual(told, right)
            self.assertTrue(all(type(part) is list for part in told))


class Needed(unittest.TestCase):
    def test_all_are_needed(self):
        self.assertEqual(needed(BOOK, LADDER), [0, 1, 2, 3, 4, 5, 6])
        self.assertEqual(needed(BOOK, [("book", 4)]), [0])

    def test_some_are_spare(self):
        self.assertEqual(needed(SPARE_BOOK, SPARE), [0, 2, 3, 9, 10])
        self.assertEqual(needed(SPARE_BOOK, SPARE[:6]), [0, 2, 3, 4, 5])

    def test_the_last_row_is_of_the_book(self):
        self.assertEqual(needed(BOOK, LADDER + [("book", 0)]), [7])
        self.assertEqual(needed(BOOK, [("book", 0)] * 200), [199])

    def test_by_chance(self):
        for book, ladder in some_ladders():
            told = asked_twice(self, needed, book, ladder)
            self.assertIs(type(told), list)
            self.assertEqual(told, sorted(under_plainly(ladder, len(ladder) - 1)))


class Trimmed(unittest.TestCase):
    def test_nothing_is_spare(self):
        told = asked_twice(self, trimmed, BOOK, LADDER)
        self.assertEqual(told, LADDER)
        self.assertIsNot(told, LADDER)

    def test_some_are_spare(self):
        right = [("book", 0), ("book", 1), ("cut", 0, 1, 1), ("book", 2), ("cut", 2, 3, 2)]
        self.assertEqual(trimmed(SPARE_BOOK, SPARE), right)
        self.assertEqual(trimmed(SPARE_BOOK, SPARE[:6]), right)

    def test_the_last_row_is_of_the_book(self):
        self.assertEqual(trimmed(BOOK, LADDER + [("book", 6)]), [("book", 6)])
        self.assertEqual(trimmed(BOOK, [("book", 2)] * 200), [("book", 2)])

    def test_what_is_told_twice_stays_if_it_is_needed(self):
        ladder = [("book", 0), ("book", 1), ("cut", 0, 1, 1), ("book", 4), ("cut", 2, 3, 2), ("book", 1),
                  ("cut", 4, 5, 1)]
        self.assertEqual(trimmed(BOOK, ladder), ladder)

    def test_by_chance(self):
        shorter = 0
        for book, ladder in some_ladders():
            told = asked_twice(self, trimmed, book, ladder)
            every = under_plainly(ladder, len(ladder) - 1)
            self.assertEqual(told, picked_plainly(ladder, every, list(range(len(ladder)))))
            self.assertIsNone(fault_plainly(book, told))
            self.assertIs(is_ladder(book, told), True)
            self.assertEqual(claims_plainly(book, told)[-1], claims_plainly(book, ladder)[-1])
            self.assertLessEqual(len(told), len(ladder))
            self.assertEqual(needed(book, told), list(range(len(told))))
            self.assertEqual(trimmed(book, told), told)
            shorter += len(told) < len(ladder)
        self.assertGreater(shorter, 10)


if __name__ == "__main__":
    unittest.main()
