"""Point 12: bare ladders; point 3 of the ladder that is made bare."""

import unittest

from sparecut.bare import is_bare, made_bare
from sparecut.errors import NoLadder
from tests.helper import (
    BOOK, CHAIN_BOOK, LADDER, asked_twice, chain_ladder, chances, claims_plainly, look_at_shorter,
    some_dense_ladders, some_ladder, some_ladders, some_short_book, under_plainly, wide_plainly, wrong_lists,
)

PLAIN_BOOK = ((1, 2), (-1, 2), (-2, 3), (-3,), (2, 3))
# The claims are (1, 2), (-1, 2), (2,), (-2, 3), (3,), (-3,), ().
PLAIN = [
    ("book", 0), ("book", 1), ("cut", 0, 1, 1), ("book", 2), ("cut", 2, 3, 2), ("book", 3), ("cut", 4, 5, 3),
]


def is_bare_plainly(book, ladder):
    claims = claims_plainly(book, ladder)
    if under_plainly(ladder, len(ladder) - 1) != set(range(len(ladder))):
        return False
    for later in range(len(ladder)):
        if any(wide_plainly(claims[elder], claims[later]) for elder in range(later)):
            return False
        if ladder[later][0] == "cut" and any(wide_plainly(claim, claims[later]) for claim in book):
            return False
    return True


class BeingBare(unittest.TestCase):
    def is_so(self, book, ladder):
        self.assertIs(asked_twice(self, is_bare, book, ladder), True, (book, ladder))

    def is_not_so(self, book, ladder):
        self.assertIs(asked_twice(self, is_bare, book, ladder), False, (book, ladder))

    def test_ordinary_ladders(self):
        self.is_so(PLAIN_BOOK, PLAIN)
        self.is_so(PLAIN_BOOK, PLAIN[:3])
        self.is_so(PLAIN_BOOK, PLAIN[:5])

    def test_one_row(self):
        for number in range(len(BOOK)):
            self.is_so(BOOK, [("book", number)])

    def test_a_row_that_is_not_needed(self):
        self.is_not_so(PLAIN_BOOK, PLAIN[:4])
        self.is_not_so(PLAIN_BOOK, [("book", 3)] + [("book", 0)])
        self.is_not_so(PLAIN_BOOK, PLAIN[:2] + [("book", 3), ("cut", 0, 1, 1)])
        self.is_not_so(PLAIN_BOOK, PLAIN[:6])

    def test_a_claim_told_twice(self):
        # The claims are (1, 3), (-4, -1), (-4, 3), (-1, 4), (3, 4), (3,); told twice is (1, 3), of the book.
        book = ((1, 3), (-4, -1), (-1, 4), (1, 3))
        once = [("book", 0), ("book", 1), ("cut", 0, 1, 1), ("book", 2), ("cut", 0, 3, 1), ("cut", 4, 2, 4)]
        self.is_so(book, once)
        for number in (0, 3):
            twice = once[:3] + [("book", number), ("book", 2), ("cut", 3, 4, 1), ("cut", 5, 2, 4)]
            self.is_not_so(book, twice)

    def test_a_row_as_wide_as_one_behind_it(self):
        # All rows are needed, no claim of the book is as wide as that of a cut, and yet row 2, (1, 3), is as wide
        # as row 3, (1, 3, 4).
        book = ((1, 2), (-2, 3), (1, 3, 4), (-4, -1), (-1, 5))
        ladder = [
            ("book", 0), ("book", 1), ("cut", 0, 1, 2), ("book", 2), ("book", 3), ("cut", 2, 4, 1), ("book", 4),
            ("cut", 3, 6, 1), ("cut", 7, 5, 4),
        ]
        self.is_not_so(book, ladder)
        self.is_so(book[:2] + ((1, 4, 6),) + book[3:], ladder)
        # The wider one behind the other is no fault.
        turned = [
            ("book", 2), ("book", 0), ("book", 1), ("cut", 1, 2, 2), ("book", 3), ("cut", 3, 4, 1), ("book", 4),
            ("cut", 0, 6, 1), ("cut", 7, 5, 4),
        ]
        self.is_so(book, turned)
        # A cut that is told as widely by the row right ahead of it.
        book = ((1, 2), (-2, 3), (-3, 2, 4))
        ladder = [("book", 0), ("book", 1), ("cut", 0, 1, 2), ("book", 2), ("cut", 2, 3, 3)]
        self.is_not_so(book, ladder)

    def test_a_claim_of_the_book_as_wide_as_that_of_a_cut(self):
        self.is_so(PLAIN_BOOK[:4], PLAIN)
        for claim, many in (((2,), 3), ((3,), 5), ((), 7)):
            for told in (PLAIN_BOOK[:4] + (claim,), PLAIN_BOOK + (claim,) + PLAIN_BOOK[:1]):
                self.is_not_so(told, PLAIN[:many])
                self.is_not_so(told, PLAIN)
        # A claim of the book that isn't told by a row does no harm to rows of the book.
        self.is_so(((1, 2, 3), (1,)), [("book", 0)])
        self.is_so(((1, 2), (-1, 2), (2, 3)), PLAIN[:3])
        self.is_not_so(((1, 2), (-1, 2, 4), (4,)), [("book", 0), ("book", 1), ("cut", 0, 1, 1)])
        self.is_so(((1, 2), (-1, 2, 4), (4, 5)), [("book", 0), ("book", 1), ("cut", 0, 1, 1)])
        self.is_so(((1, 2), (-1, 2, 4), (1,)), [("book", 0), ("book", 1), ("cut", 0, 1, 1)])

    def test_by_chance(self):
        seen = {True: 0, False: 0}
        for number, chance in enumerate(chances(600)):
            book = some_short_book(chance, number)[:6]
            ladder = some_ladder(chance, book, chance.randint(1, 6))
            right = is_bare_plainly(book, ladder)
            seen[right] += 1
            self.assertIs(is_bare(book, ladder), right, (book, ladder))
        self.assertGreater(seen[True], 50)
        self.assertGreater(seen[False], 50)
        for book, ladder in [*some_ladders(), *some_dense_ladders()]:
            self.assertIs(is_bare(book, ladder), is_bare_plainly(book, ladder))


class MadeBare(unittest.TestCase):
    def told(self, book, ladder):
        told = asked_twice(self, made_bare, book, ladder)
        look_at_shorter(self, book, ladder, told)
        self.assertTrue(is_bare_plainly(book, told), (book, ladder, told))
        self.assertIs(is_bare(book, told), True)
        return told

    def test_a_bare_ladder(self):
        self.assertLessEqual(len(self.told(PLAIN_BOOK, PLAIN)), len(PLAIN))
        self.assertEqual(self.told(BOOK, [("book", 2)]), [("book", 2)])

    def test_a_row_that_is_not_needed(self):
        self.assertEqual(len(self.told(PLAIN_BOOK, PLAIN[:4])), 1)
        self.assertEqual(len(self.told(PLAIN_BOOK, PLAIN[:2] + [("book", 3), ("cut", 0, 1, 1)])), 3)

    def test_a_row_as_wide_as_one_behind_it(self):
        book = ((1, 2), (-1, 4), (1, 2, 3), (-4, -3))
        ladder = [
            ("book", 0), ("book", 1), ("cut", 0, 1, 1), ("book", 2), ("book", 3), ("cut", 3, 4, 3), ("cut", 2, 5, 4),
        ]
        self.assertEqual(claims_plainly(book, self.told(book, ladder))[-1], (1, 2))

    def test_a_claim_of_the_book_as_wide_as_that_of_a_cut(self):
        for claim, many in (((2,), 3), ((3,), 5), ((), 7)):
            told = self.told(PLAIN_BOOK[:4] + (claim,), PLAIN[:many])
            self.assertEqual(claims_plainly(PLAIN_BOOK[:4] + (claim,), told), [claim])

    def test_a_wider_claim_spares_the_cuts_behind_it(self):
        # (3,) of the book stands for (2, 3), which is cut by 2 with (-2, 3).
        book = ((1, 2, 3), (-1, 2, 3), (-2, 3), (3,), (-3,))
        ladder = [
            ("book", 0), ("book", 1), ("cut", 0, 1, 1), ("book", 2), ("cut", 2, 3, 2), ("book", 4), ("cut", 4, 5, 3),
        ]
        told = self.told(book, ladder)
        self.assertEqual(claims_plainly(book, told), [(3,), (-3,), ()])

    def test_the_ladder_named_in_the_other_tests(self):
        # () is a claim of the book itself.
        self.assertEqual(self.told(BOOK, LADDER), [("book", 6)])

    def test_two_hundred_rows(self):
        self.assertEqual(len(self.told(CHAIN_BOOK, chain_ladder(200))), 3)
        self.assertEqual(self.told(BOOK, [("book", 0)] * 200), [("book", 0)])

    def test_by_chance(self):
        for book, ladder in some_ladders():
            self.told(book, ladder)
        long = wider = 0
        for book, ladder in some_dense_ladders():
            told = self.told(book, ladder)
            long += 6 < len(told) < len(ladder)
            wider += claims_plainly(book, told)[-1] != claims_plainly(book, ladder)[-1]
        self.assertGreater(long, 30)
        self.assertGreater(wider, 5)

    def test_what_is_bare_stays_as_long(self):
        for book, ladder in some_ladders():
            told = self.told(book, ladder)
            again = self.told(book, told)
            self.assertLessEqual(len(again), len(told))


class Refusing(unittest.TestCase):
    def test_lists_that_are_no_ladder(self):
        for thing, at in wrong_lists():
            for ask in (is_bare, made_bare):
                with self.assertRaises(NoLadder) as caught:
                    ask(BOOK, thing)
                self.assertEqual(caught.exception.at, at)


if __name__ == "__main__":
    unittest.main()
