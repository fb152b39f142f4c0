"""Point 10: told once; point 3 of the ladder that is told so."""

import unittest

from sparecut.ladders import is_ladder
from sparecut.once import told_once
from tests.helper import (
    BOOK, LADDER, asked_twice, claims_plainly, fault_plainly, picked_plainly, some_ladders, under_plainly,
)


def once_plainly(book, ladder):
    claims = claims_plainly(book, ladder)
    stands_for = [claims.index(claim) for claim in claims]
    turned = []
    for row in ladder:
        turned.append(row if row[0] == "book" else ("cut", stands_for[row[1]], stands_for[row[2]], row[3]))
    return picked_plainly(ladder, under_plainly(turned, stands_for[-1]), stands_for)


class ToldOnce(unittest.TestCase):
    def test_nothing_is_told_twice(self):
        told = asked_twice(self, told_once, BOOK, LADDER)
        self.assertEqual(told, LADDER)
        self.assertIsNot(told, LADDER)

    def test_one_row(self):
        self.assertEqual(told_once(BOOK, [("book", 2)]), [("book", 2)])

    def test_a_row_of_the_book_told_again(self):
        ladder = [("book", 0), ("book", 0), ("book", 1), ("cut", 1, 2, 1)]
        self.assertEqual(told_once(BOOK, ladder), [("book", 0), ("book", 1), ("cut", 0, 1, 1)])
        self.assertEqual(told_once(BOOK, [("book", 0)] * 200), [("book", 0)])

    def test_of_alike_claims_the_first_row_stays(self):
        # The claims 0 and 5 of the book are alike.
        self.assertEqual(told_once(BOOK, [("book", 5), ("book", 0)]), [("book", 5)])
        self.assertEqual(told_once(BOOK, [("book", 0), ("book", 5)]), [("book", 0)])

    def test_a_cut_told_again(self):
        ladder = LADDER[:3] + [("book", 2), ("book", 5), ("cut", 4, 1, 1), ("cut", 5, 3, 2)]
        self.assertEqual(told_once(BOOK, ladder), LADDER[:5])

    def test_a_row_of_the_book_stands_for_a_cut(self):
        book = ((1, 2), (-1, 2), (2,), (-2,))
        ladder = [("book", 2), ("book", 0), ("book", 1), ("cut", 1, 2, 1), ("book", 3), ("cut", 3, 4, 2)]
        self.assertEqual(told_once(book, ladder), [("book", 2), ("book", 3), ("cut", 0, 1, 2)])

    def test_a_cut_stands_for_a_row_of_the_book_behind_it(self):
        book = ((1, 2), (-1, 2), (2,), (-2,))
        ladder = [("book", 0), ("book", 1), ("cut", 0, 1, 1), ("book", 2), ("book", 3), ("cut", 3, 4, 2)]
        right = [("book", 0), ("book", 1), ("cut", 0, 1, 1), ("book", 3), ("cut", 2, 3, 2)]
        self.assertEqual(told_once(book, ladder), right)

    def test_the_last_claim_was_told_far_ahead(self):
        self.assertEqual(told_once(BOOK, LADDER + [("book", 1)]), [("book", 1)])
        ladder = LADDER + [("book", 4), ("cut", 0, 1, 1)]
        self.assertEqual(told_once(BOOK, ladder), LADDER[:3])
        self.assertEqual(told_once(((1,), (2,)), [("book", 0), ("book", 1), ("book", 0)]), [("book", 0)])

    def test_the_claim_without_says(self):
        self.assertEqual(told_once(BOOK, [("book", 6), ("book", 6)]), [("book", 6)])
        self.assertEqual(told_once(BOOK, LADDER + [("book", 6)]), LADDER)
        moved = [row if row[0] == "book" else ("cut", row[1] + 1, row[2] + 1, row[3]) for row in LADDER]
        self.assertEqual(told_once(BOOK, [("book", 6)] + moved), [("book", 6)])

    def test_what_is_spare_goes(self):
        ladder = [("book", 3), ("book", 4), ("book", 0), ("book", 1), ("cut", 2, 3, 1)]
        self.assertEqual(told_once(BOOK, ladder), LADDER[:3])

    def test_a_wider_claim_stands_for_none_but_itself(self):
        book = ((2,), (2, 3), (-3,))
        ladder = [("book", 0), ("book", 1), ("book", 2), ("cut", 1, 2, 3)]
        self.assertEqual(told_once(book, ladder), [("book", 0)])
        self.assertEqual(told_once(book, ladder[:2]), [("book", 1)])

    def test_by_chance(self):
        shorter = 0
        for book, ladder in some_ladders():
            told = asked_twice(self, told_once, book, ladder)
            self.assertIs(type(told), list)
            self.assertEqual(told, once_plainly(book, ladder))
            self.assertIsNone(fault_plainly(book, told))
            self.assertIs(is_ladder(book, told), True)
            claims = claims_plainly(book, told)
            self.assertEqual(claims[-1], claims_plainly(book, ladder)[-1])
            self.assertEqual(len(claims), len(set(claims)))
            self.assertEqual(under_plainly(told, len(told) - 1), set(range(len(told))))
            self.assertLessEqual(len(told), len(ladder))
            self.assertLessEqual(
                sum(1 for row in told if row[0] == "cut"), sum(1 for row in ladder if row[0] == "cut"))
            shorter += 1 < len(told) < len(ladder)
        self.assertGreater(shorter, 10)


if __name__ == "__main__":
    unittest.main()
