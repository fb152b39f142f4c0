"""Point 11: another row instead of a row, NoInstead; point 3 of the ladder that is told so."""

import unittest

from sparecut.errors import NoInstead, NoLadder
from sparecut.instead import put_instead
from tests.helper import (
    BOOK, CHAIN_BOOK, FORTY_FIGURES, LADDER, asked_twice, chain_ladder, chances, claims_plainly, deep,
    look_at_shorter, picked_plainly, some_ladder, some_ladders, some_short_book, under_plainly, wide_plainly,
    wrong_lists,
)


def instead_plainly(book, ladder, old, other):
    """(ladder, places), reckoned with the elder numbers throughout and renumbered in the end alone."""
    claims = claims_plainly(book, ladder)
    stands_for, new_claims = [], {}
    for number, row in enumerate(ladder):
        stands, claim = number, claims[number]
        if number == old:
            stands = other
        elif row[0] == "cut":
            one, two = stands_for[row[1]], stands_for[row[2]]
            if row[3] not in new_claims[one]:
                stands = one
            elif -row[3] not in new_claims[two]:
                stands = two
            else:
                claim = tuple(sorted((set(new_claims[one]) - {row[3]}) | (set(new_claims[two]) - {-row[3]})))
        stands_for.append(stands)
        new_claims.setdefault(stands, claim)
    turned = [row if row[0] == "book" else ("cut", stands_for[row[1]], stands_for[row[2]], row[3]) for row in ladder]
    left = sorted(under_plainly(turned, stands_for[-1]))
    places = [left.index(stands) if stands in left else None for stands in stands_for]
    return picked_plainly(ladder, left, stands_for), places


def pairs_that_fit(book, ladder):
    claims = claims_plainly(book, ladder)
    return [
        (old, other) for old in range(len(ladder)) for other in range(old) if wide_plainly(claims[other], claims[old])
    ]


# The claims are (2,), (1, 2), (-1, 2), (2,), (-2, 3), (3,), (-2, 1), (1,).
WIDE_BOOK = ((2,), (1, 2), (-1, 2), (-2, 3), (-2, 1), (-1,))
WIDE = [
    ("book", 0), ("book", 1), ("book", 2), ("cut", 1, 2, 1), ("book", 3), ("cut", 3, 4, 2), ("book", 4),
    ("cut", 3, 6, 2),
]


class Instead(unittest.TestCase):
    def told(self, book, ladder, old, other):
        """What is told, after a look at all that point 11 and point 3 say of it."""
        told = asked_twice(self, put_instead, book, ladder, old, other)
        self.assertIs(type(told), tuple)
        self.assertEqual(len(told), 2)
        shorter, places = told
        look_at_shorter(self, book, ladder, shorter)
        self.assertEqual(under_plainly(shorter, len(shorter) - 1), set(range(len(shorter))))
        self.assertIs(type(places), list)
        self.assertEqual(len(places), len(ladder))
        claims, elder = claims_plainly(book, shorter), claims_plainly(book, ladder)
        for number, place in enumerate(places):
            if place is not None:
                self.assertIs(type(place), int)
                self.assertTrue(wide_plainly(claims[place], elder[number]))
        self.assertEqual(places[-1], len(shorter) - 1)
        self.assertEqual(sorted(set(places) - {None}), list(range(len(shorter))))
        self.assertEqual(told, instead_plainly(book, ladder, old, other))
        return told

    def test_a_row_of_the_book_instead_of_a_cut(self):
        right = [("book", 0), ("book", 4), ("cut", 0, 1, 2)]
        self.assertEqual(self.told(WIDE_BOOK, WIDE, 3, 0), (right, [0, None, None, 0, None, None, 1, 2]))

    def test_the_later_rows_lose_what_nobody_needs(self):
        right = [("book", 0), ("book", 3), ("cut", 0, 1, 2)]
        self.assertEqual(self.told(WIDE_BOOK, WIDE[:6], 3, 0), (right, [0, None, None, 0, 1, 2]))

    def test_what_stands_for_the_first_row_lacks_it(self):
        # (2,) instead of (1, 2) lacks 1, so it stands for the cut by 1, too.
        right = [("book", 0), ("book", 4), ("cut", 0, 1, 2)]
        self.assertEqual(self.told(WIDE_BOOK, WIDE, 1, 0), (right, [0, 0, None, 0, None, None, 1, 2]))

    def test_what_stands_for_the_second_row_lacks_it(self):
        right = [("book", 0), ("book", 4), ("cut", 0, 1, 2)]
        self.assertEqual(self.told(WIDE_BOOK, WIDE, 2, 0), (right, [0, None, 0, 0, None, None, 1, 2]))

    def test_where_both_lack_it_what_stands_for_the_first_row_does(self):
        book = ((5,), (1, 2, 5), (-5, 6), (-1, 5), (-2, -1))
        ladder = [
            ("book", 0), ("book", 1), ("book", 2), ("cut", 1, 2, 5), ("book", 3), ("cut", 1, 4, 1), ("book", 4),
            ("cut", 5, 6, 2), ("cut", 3, 7, 1),
        ]
        # (6,) stands for row 3, (1, 2, 6), and (5,) for row 7, (-1, 5): neither can be cut by 1 any more.
        right = [("book", 0), ("book", 2), ("cut", 0, 1, 5)]
        self.assertEqual(self.told(book, ladder, 1, 0), (right, [0, 0, 1, 2, None, 0, None, 0, 2]))
        turned = ladder[:3] + [("book", 3), ("cut", 1, 2, 5), ("cut", 1, 3, 1), ("book", 4), ("cut", 5, 6, 2)]
        self.assertEqual(self.told(book, turned + [("cut", 4, 7, 1)], 1, 0)[0], right)

    def test_what_stands_for_a_row_stands_for_the_next_ones_too(self):
        book = ((3,), (2, 3), (-2, -1), (1, 4))
        ladder = [("book", 0), ("book", 1), ("book", 2), ("cut", 1, 2, 2), ("book", 3), ("cut", 4, 3, 1)]
        # (3,) stands for row 1, then for row 3, which lacks -1 by now, then for the last one.
        self.assertEqual(self.told(book, ladder, 1, 0), ([("book", 0)], [0, 0, None, 0, None, 0]))

    def test_the_claim_without_says_stands_for_all(self):
        book = ((), (1, 2), (-1, 2), (-2, 3))
        ladder = [("book", 0), ("book", 1), ("book", 2), ("cut", 1, 2, 1), ("book", 3), ("cut", 3, 4, 2)]
        for old in (1, 2, 3, 4, 5):
            self.assertEqual(self.told(book, ladder, old, 0)[0], [("book", 0)])

    def test_instead_of_the_last_row(self):
        self.assertEqual(self.told(WIDE_BOOK, WIDE[:4], 3, 0), ([("book", 0)], [0, None, None, 0]))
        ladder = LADDER[:3] + [("book", 0)]
        self.assertEqual(self.told(BOOK, ladder, 3, 0), ([("book", 0)], [0, None, None, 0]))
        self.assertEqual(self.told(BOOK, ladder, 3, 2), (LADDER[:3], [0, 1, 2, 2]))

    def test_an_alike_claim_stands_instead(self):
        ladder = [("book", 0), ("book", 5), ("book", 1), ("cut", 1, 2, 1)]
        right = [("book", 0), ("book", 1), ("cut", 0, 1, 1)]
        self.assertEqual(self.told(BOOK, ladder, 1, 0), (right, [0, 0, 1, 2]))

    def test_a_row_that_nobody_needs(self):
        ladder = [("book", 0), ("book", 5), ("book", 3), ("book", 1), ("cut", 0, 3, 1)]
        right = [("book", 0), ("book", 1), ("cut", 0, 1, 1)]
        self.assertEqual(self.told(BOOK, ladder, 1, 0), (right, [0, 0, None, 1, 2]))

    def test_cuts_that_come_to_be_alike_stay_two(self):
        book = ((1, 2), (1, 2), (-1, 2), (-2, 3), (-3, -2))
        ladder = [
            ("book", 0), ("book", 1), ("book", 2), ("cut", 0, 2, 1), ("cut", 1, 2, 1), ("book", 3), ("cut", 3, 5, 2),
            ("book", 4), ("cut", 4, 7, 2), ("cut", 6, 8, 3),
        ]
        right = [
            ("book", 0), ("book", 2), ("cut", 0, 1, 1), ("cut", 0, 1, 1), ("book", 3), ("cut", 2, 4, 2), ("book", 4),
            ("cut", 3, 6, 2), ("cut", 5, 7, 3),
        ]
        self.assertEqual(self.told(book, ladder, 1, 0), (right, [0, 0, 1, 2, 3, 4, 5, 6, 7, 8]))

    def test_a_row_that_none_needs_but_by_the_stand_in(self):
        # Row 0 comes to be needed, row 1 no more.
        right = [("book", 0), ("book", 1), ("cut", 0, 1, 1)]
        ladder = [("book", 0), ("book", 5), ("book", 1), ("cut", 1, 2, 1), ("book", 2)]
        self.assertEqual(self.told(BOOK, ladder[:4], 1, 0), (right, [0, 0, 1, 2]))
        self.assertEqual(self.told(BOOK, ladder, 1, 0), ([("book", 2)], [None, None, None, None, 0]))

    def test_two_hundred_rows(self):
        ladder = chain_ladder(200)
        # The rows 2, 4, 6 .. tell (1,), the rows 3, 5, 7 .. (2,).
        self.assertEqual(self.told(CHAIN_BOOK, ladder, 198, 2)[0], [("book", 1), ("book", 2), ("cut", 1, 0, 1)])
        self.assertEqual(len(self.told(CHAIN_BOOK, ladder, 199, 3)[0]), 3)
        for old, other in ((5, 3), (100, 98), (4, 2), (199, 197), (150, 20), (151, 21)):
            self.assertEqual(len(self.told(CHAIN_BOOK, ladder, old, other)[0]), 200 - (old - other))

    def test_each_pair_of_short_ladders(self):
        many = nones = 0
        for number, chance in enumerate(chances(60)):
            book = some_short_book(chance, number)
            ladder = some_ladder(chance, book, chance.randint(2, 14))
            for old, other in pairs_that_fit(book, ladder):
                nones += None in self.told(book, ladder, old, other)[1]
                many += 1
        self.assertGreater(many, 300)
        self.assertGreater(nones, 100)

    def test_by_chance(self):
        shorter = 0
        for chance, (book, ladder) in zip(chances(90), some_ladders()):
            pairs = pairs_that_fit(book, ladder)
            for old, other in chance.sample(pairs, min(3, len(pairs))):
                shorter += 1 < len(self.told(book, ladder, old, other)[0]) < len(ladder)
        self.assertGreater(shorter, 20)


class Refusing(unittest.TestCase):
    def refused(self, book, ladder, old, other):
        before = list(ladder)
        with self.assertRaises(NoInstead) as caught:
            put_instead(book, ladder, old, other)
        self.assertIs(type(caught.exception), NoInstead)
        self.assertEqual(ladder, before)

    def test_numbers_that_are_alike(self):
        for number in range(len(WIDE)):
            self.refused(WIDE_BOOK, WIDE, number, number)

    def test_the_later_row_instead_of_the_elder(self):
        self.refused(WIDE_BOOK, WIDE, 0, 3)
        self.refused(WIDE_BOOK, WIDE, 1, 3)
        self.refused(BOOK, [("book", 0), ("book", 5)], 0, 1)

    def test_numbers_that_are_none_of_a_row(self):
        far = len(WIDE)
        for number in (-1, -2, -far, -far - 1, far, far + 1, 200, 201, FORTY_FIGURES, -FORTY_FIGURES):
            self.refused(WIDE_BOOK, WIDE, 3, number)
            self.refused(WIDE_BOOK, WIDE, number, 0)
            self.refused(WIDE_BOOK, WIDE, number, number)
            self.refused(WIDE_BOOK, WIDE, number, 3 - far)
            self.refused(WIDE_BOOK, [("book", 0)], 0, number)
        # Counted from the end these rows would fit.
        self.refused(WIDE_BOOK, WIDE, 3 - far, 0)
        self.refused(WIDE_BOOK, WIDE, 3, -far)

    def test_one_row_alone(self):
        self.refused(BOOK, [("book", 0)], 0, 0)
        self.refused(BOOK, [("book", 6)], 1, 0)

    def test_a_claim_that_is_not_as_wide(self):
        self.refused(WIDE_BOOK, WIDE, 3, 1)
        self.refused(WIDE_BOOK, WIDE, 3, 2)
        self.refused(WIDE_BOOK, WIDE, 2, 1)
        self.refused(BOOK, LADDER, 6, 5)
        # The wide one is behind: the other way about it is refused.
        self.refused(((1, 2), (1,)), [("book", 0), ("book", 1)], 1, 0)
        put_instead(((1,), (1, 2)), [("book", 0), ("book", 1)], 1, 0)

    def test_each_pair_of_numbers(self):
        for number, chance in enumerate(chances(30)):
            book = some_short_book(chance, number)
            ladder = some_ladder(chance, book, chance.randint(1, 8))
            fit = pairs_that_fit(book, ladder)
            for old in range(-2, len(ladder) + 2):
                for other in range(-2, len(ladder) + 2):
                    if (old, other) not in fit:
                        self.refused(book, ladder, old, other)

    def test_truths_are_no_numbers(self):
        self.refused(BOOK, [("book", 0), ("book", 0)], True, 0)
        self.refused(BOOK, [("book", 0), ("book", 0)], 1, False)

    def test_a_list_that_is_no_ladder_goes_ahead_of_all(self):
        for thing, at in wrong_lists():
            for old, other in ((1, 0), (0, 0), (0, 1), (-1, 5), (FORTY_FIGURES, -FORTY_FIGURES), (at, at)):
                with self.assertRaises(NoLadder) as caught:
                    put_instead(BOOK, thing, old, other)
                self.assertEqual(caught.exception.at, at)
        for thing in ([deep(58, 0)], [[]]):
            with self.assertRaises(NoLadder):
                put_instead(BOOK, thing, 7, 9)


if __name__ == "__main__":
    unittest.main()
