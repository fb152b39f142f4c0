"""Point 16: single says put off; point 3 of the ladder that is told so."""

import unittest

from sparecut.errors import NoLadder
from sparecut.late import is_put_off, put_off
from tests.helper import (
    BOOK, CHAIN_BOOK, FORTY_FIGURES, LADDER, asked_twice, chain_ladder, chances, claims_plainly, fault_plainly,
    look_at_shorter, row_claim_plainly, some_claim, some_cut, some_dense_ladders, some_ladder, some_ladders,
    some_short_book, under_plainly, wrong_lists,
)


def is_put_off_plainly(book, ladder, first):
    if first < 1 or first > len(ladder):
        return False
    claims = claims_plainly(book, ladder)
    for row in ladder[:first]:
        if row[0] == "cut" and 1 in (len(claims[row[1]]), len(claims[row[2]])):
            return False
    singles = {number for number in range(first) if len(claims[number]) == 1}
    things = set()
    for number in range(first, len(ladder)):
        row = ladder[number]
        if row[0] == "book" or row[3] in things:
            return False
        things.add(row[3])
        if number == first:
            if not {row[1], row[2]} & singles:
                return False
        elif {row[1], row[2]} - {number - 1} == {row[1], row[2]} or not {row[1], row[2]} - {number - 1} <= singles:
            return False
    return True


def some_single_cut(chance, claims):
    """A cut by chance of a row with one say alone with a row that has its opposite, or None."""
    singles = [number for number, claim in enumerate(claims) if len(claim) == 1]
    single = chance.choice(singles)
    say = claims[single][0]
    others = [number for number, claim in enumerate(claims) if -say in claim and len(claim) > 1]
    if not others:
        return None
    other = chance.choice(others)
    return ("cut", single, other, say) if say > 0 else ("cut", other, single, -say)


def some_single_ladders(many):
    """Pairs of a book and a ladder by chance, in which much is cut by single says."""
    told = []
    for number, chance in enumerate(chances(many)):
        says = [thing * chance.choice((1, -1)) for thing in chance.sample(range(1, 9), chance.randint(1, 5))]
        book = tuple((say,) for say in says)
        while len(book) < 14:
            claim = some_claim(chance, 8, 5)
            # A few claims have a single say itself, most have its opposite, if any.
            if len(claim) > 1 and (chance.random() < 0.1 or not set(claim) & set(says)):
                book += (claim,)
        rows = [("book", at) for at in chance.sample(range(14), 14)]
        claims = [book[row[1]] for row in rows]
        for turn in range((6, 12, 30, 90)[number % 4]):
            row = some_single_cut(chance, claims) if chance.random() < 0.4 else some_cut(chance, claims)
            if row is not None:
                rows.append(row)
                claims.append(row_claim_plainly(book, claims, row))
        many_under = [len(under_plainly(rows, at)) for at in range(len(rows))]
        told.append((book, rows[:many_under.index(max(many_under)) + 1]))
    return told


# The claims are (1,), (2,), (-2, -1, 3), (-3, 4, 5), (-2, -1, 4, 5), (-2, 4, 5), (4, 5).
OFF_BOOK = ((1,), (2,), (-2, -1, 3), (-3, 4, 5), (-5,), (-4,), (5,))
OFF = [
    ("book", 0), ("book", 1), ("book", 2), ("book", 3), ("cut", 2, 3, 3), ("cut", 0, 4, 1), ("cut", 1, 5, 2),
]
NUMBERS = list(range(-3, 12)) + [200, 201, -200, FORTY_FIGURES, -FORTY_FIGURES]


class BeingPutOff(unittest.TestCase):
    def fits_at(self, book, ladder, numbers):
        """Of all whole numbers these alone are numbers from which on the ladder is put off."""
        told = []
        for first in NUMBERS:
            answer = asked_twice(self, is_put_off, book, ladder, first)
            self.assertIn(answer, (True, False))
            self.assertIs(type(answer), bool)
            self.assertIs(answer, is_put_off_plainly(book, ladder, first), first)
            if answer:
                told.append(first)
        self.assertEqual(told, numbers)

    def test_an_ordinary_ladder(self):
        self.fits_at(OFF_BOOK, OFF, [5])

    def test_its_first_rows(self):
        self.fits_at(OFF_BOOK, OFF[:6], [5])
        # Nothing is cut by a single say: the ladder's length alone fits.
        self.fits_at(OFF_BOOK, OFF[:5], [5])
        self.fits_at(OFF_BOOK, OFF[:4], [4])

    def test_one_row(self):
        self.fits_at(OFF_BOOK, OFF[:1], [1])
        self.fits_at(((1, 2),), [("book", 0)], [1])
        self.fits_at(((),), [("book", 0)], [1])

    def test_two_numbers_may_fit(self):
        # Row 2 is the only cut, by a single say: it may be put off, or else it isn't one of the last rows.
        self.fits_at(((1,), (-1, 2)), [("book", 0), ("book", 1), ("cut", 0, 1, 1)], [2])
        self.fits_at(((1,), (-1, 2)), [("book", 0), ("book", 1)], [2])

    def test_the_single_say_may_be_in_either_part(self):
        self.fits_at(((-1,), (1, 2)), [("book", 0), ("book", 1), ("cut", 1, 0, 1)], [2])
        ladder = OFF + [("book", 4), ("cut", 6, 7, 5)]
        self.fits_at(OFF_BOOK, ladder, [])
        ladder = OFF[:2] + [("book", 4), ("book", 2), ("book", 3), ("cut", 3, 4, 3)]
        ladder += [("cut", 0, 5, 1), ("cut", 6, 2, 5), ("cut", 1, 7, 2)]
        self.fits_at(OFF_BOOK, ladder, [6])

    def test_two_single_says(self):
        self.fits_at(((1,), (-1,)), [("book", 0), ("book", 1), ("cut", 0, 1, 1)], [2])
        ladder = [("book", 6), ("book", 4), ("cut", 0, 1, 5)]
        self.fits_at(OFF_BOOK, ladder, [2])

    def test_a_cut_by_a_single_say_ahead(self):
        # Row 5 is cut by a single say, and then there is a cut that isn't.
        book = ((1,), (-1, 2, 3), (-3, 4), (-4,))
        ladder = [("book", 0), ("book", 1), ("cut", 0, 1, 1), ("book", 2), ("cut", 2, 3, 3)]
        self.fits_at(book, ladder, [])
        self.fits_at(book, ladder + [("book", 3), ("cut", 4, 5, 4)], [])
        late = [("book", 0), ("book", 1), ("book", 2), ("cut", 1, 2, 3), ("book", 3), ("cut", 3, 4, 4),
                ("cut", 0, 5, 1)]
        self.fits_at(book, late, [5])
        # It does so, too, where nobody needs it.
        self.fits_at(book, ladder[:3] + [("book", 2), ("cut", 1, 3, 3)], [])

    def test_a_row_of_the_book_behind(self):
        self.fits_at(OFF_BOOK, OFF[:6] + [("book", 1)], [])
        self.fits_at(OFF_BOOK, OFF + [("book", 1)], [])
        self.fits_at(OFF_BOOK, OFF[:6] + [("book", 1), ("cut", 6, 5, 2)], [])

    def test_a_later_row_that_is_not_cut_with_the_row_right_ahead(self):
        self.fits_at(OFF_BOOK, OFF[:6] + [("cut", 1, 4, 2)], [])
        # The first one may be cut with any row.
        ladder = OFF[:4] + [("cut", 2, 3, 3), ("cut", 0, 2, 1), ("cut", 1, 5, 2)]
        self.fits_at(OFF_BOOK, ladder, [5])
        self.fits_at(OFF_BOOK, ladder[:6] + [("cut", 1, 4, 2)], [])
        self.fits_at(OFF_BOOK, OFF[:6] + [("cut", 0, 4, 1)], [])

    def test_two_single_says_behind_the_first_row(self):
        # Row 6 is cut of two rows ahead of first, and not with row 5.
        ladder = OFF[:4] + [("book", 6), ("book", 4), ("cut", 0, 2, 1), ("cut", 4, 5, 5)]
        self.fits_at(OFF_BOOK, ladder, [])

    def test_a_single_say_that_is_not_ahead_of_first(self):
        # Row 3 tells (2,), but it is none of the rows ahead of first.
        book = ((1,), (-1, 2), (-2, 3), (-3,))
        ladder = [("book", 0), ("book", 1), ("book", 2), ("cut", 0, 1, 1), ("cut", 3, 2, 2)]
        self.fits_at(book, ladder, [])
        self.fits_at(book, ladder[:4], [3])
        # Here it is cut with a single say that is.
        book = ((1,), (-1, 2), (-2,))
        ladder = [("book", 0), ("book", 1), ("book", 2), ("cut", 0, 1, 1), ("cut", 3, 2, 2)]
        self.fits_at(book, ladder, [3])

    def test_a_cut_without_a_single_say_behind(self):
        self.fits_at(((1, 2), (-1, 2), (-2, 3, 4)), [("book", 0), ("book", 1), ("cut", 0, 1, 1)], [3])
        book = ((1,), (-1, 2, 3), (-3, 4))
        self.fits_at(book, [("book", 0), ("book", 1), ("book", 2), ("cut", 0, 1, 1), ("cut", 3, 2, 3)], [])

    def test_made_by_cuts(self):
        # (2,) is made by a cut that isn't by a single say, and then it is used for one.
        book = ((1, 2), (-1, 2), (-2, 3))
        ladder = [("book", 0), ("book", 1), ("cut", 0, 1, 1), ("book", 2), ("cut", 2, 3, 2)]
        self.fits_at(book, ladder, [4])

    def test_the_claim_without_says_has_no_say_alone(self):
        self.fits_at(BOOK, LADDER[:3], [3])
        self.fits_at(BOOK, LADDER[:3] + [("book", 6)], [4])

    def test_truths_are_no_whole_numbers(self):
        self.assertIs(is_put_off(((1,),), [("book", 0)], 1), True)
        self.assertIs(is_put_off(((1,),), [("book", 0)], True), False)

    def test_two_hundred_rows(self):
        ladder = chain_ladder(200)
        for first in (0, 1, 2, 3, 4, 199, 200, 201):
            self.assertIs(is_put_off(CHAIN_BOOK, ladder, first), False)
        self.assertIs(is_put_off(BOOK, [("book", 0)] * 200, 200), True)
        self.assertIs(is_put_off(BOOK, [("book", 0)] * 200, 199), False)
        self.assertIs(is_put_off(BOOK, [("book", 0)] * 200, 201), False)

    def look_at_each(self, book, ladder, seen):
        for first in range(-1, len(ladder) + 2):
            right = is_put_off_plainly(book, ladder, first)
            seen[right] += first < len(ladder)
            self.assertIs(is_put_off(book, ladder, first), right, (book, ladder, first))

    def test_by_chance(self):
        seen = {True: 0, False: 0}
        for number, chance in enumerate(chances(300)):
            book = some_short_book(chance, number)[:5]
            self.look_at_each(book, some_ladder(chance, book, chance.randint(1, 7)), seen)
        for book, ladder in some_ladders():
            for first in range(0, len(ladder) + 2, 3):
                self.assertIs(is_put_off(book, ladder, first), is_put_off_plainly(book, ladder, first))
        # What is put off, and the same with one row turned into another one.
        for chance, (book, elder) in zip(chances(300), some_single_ladders(300)):
            ladder, first = put_off(book, elder)
            self.look_at_each(book, ladder, seen)
            claims = claims_plainly(book, ladder)
            at = chance.randrange(max(0, first - 2), len(ladder))
            row = some_cut(chance, claims[:at])
            if row is not None:
                turned = ladder[:at] + [row] + ladder[at + 1:]
                if fault_plainly(book, turned) is None:
                    self.look_at_each(book, turned, seen)
        self.assertGreater(seen[True], 100)
        self.assertGreater(seen[False], 100)


class PutOff(unittest.TestCase):
    def told(self, book, ladder):
        told = asked_twice(self, put_off, book, ladder)
        self.assertIs(type(told), tuple)
        self.assertEqual(len(told), 2)
        shorter, first = told
        self.assertIs(type(first), int)
        look_at_shorter(self, book, ladder, shorter)
        self.assertTrue(is_put_off_plainly(book, shorter, first), (book, ladder, told))
        self.assertIs(is_put_off(book, shorter, first), True)
        return told

    def test_one_row(self):
        for number in range(len(BOOK)):
            self.assertEqual(self.told(BOOK, [("book", number)]), ([("book", number)], 1))

    def test_what_is_put_off_already(self):
        self.told(OFF_BOOK, OFF)
        self.told(OFF_BOOK, OFF[:5])

    def test_a_cut_by_a_single_say_ahead(self):
        book = ((1,), (-1, 2, 3), (-3, 4), (-2, 4))
        ladder = [
            ("book", 0), ("book", 1), ("cut", 0, 1, 1), ("book", 2), ("cut", 2, 3, 3), ("book", 3), ("cut", 4, 5, 2),
        ]
        shorter, first = self.told(book, ladder)
        self.assertEqual(claims_plainly(book, shorter)[-1], (4,))
        self.assertEqual(shorter[first:], [("cut", 0, first - 1, 1)])

    def test_a_single_say_that_is_used_twice_is_cut_once(self):
        book = ((1,), (-1, 2), (-2, -1, 3), (-3, 4))
        ladder = [
            ("book", 0), ("book", 1), ("cut", 0, 1, 1), ("book", 2), ("cut", 0, 3, 1), ("cut", 2, 4, 2), ("book", 3),
            ("cut", 5, 6, 3),
        ]
        shorter, first = self.told(book, ladder)
        self.assertEqual(claims_plainly(book, shorter)[-1], (4,))
        self.assertLess(len(shorter), len(ladder))

    def test_a_single_say_made_by_a_cut_of_single_says(self):
        # (2,) and (3,) are made of (1,); they mustn't be made ahead of first.
        book = ((1,), (-1, 2), (-2, 3), (-3, 4))
        ladder = [
            ("book", 0), ("book", 1), ("cut", 0, 1, 1), ("book", 2), ("cut", 2, 3, 2), ("book", 3), ("cut", 4, 5, 3),
        ]
        shorter, first = self.told(book, ladder)
        self.assertEqual(claims_plainly(book, shorter)[-1], (4,))

    def test_a_single_say_made_by_another_cut(self):
        book = ((1, 2), (-1, 2), (-2, 3, 4), (-3, 5), (-4, 5))
        ladder = [
            ("book", 0), ("book", 1), ("cut", 0, 1, 1), ("book", 2), ("cut", 2, 3, 2), ("book", 3), ("cut", 4, 5, 3),
            ("book", 4), ("cut", 6, 7, 4),
        ]
        shorter, first = self.told(book, ladder)
        self.assertEqual(claims_plainly(book, shorter)[-1], (5,))
        self.assertLess(first, len(shorter))

    def test_single_says_below_0(self):
        book = ((-1,), (1, 2, 3), (-3, 4), (-2, 4))
        ladder = [
            ("book", 0), ("book", 1), ("cut", 1, 0, 1), ("book", 2), ("cut", 2, 3, 3), ("book", 3), ("cut", 4, 5, 2),
        ]
        shorter, first = self.told(book, ladder)
        self.assertEqual(claims_plainly(book, shorter)[-1], (4,))
        self.assertEqual(shorter[first:], [("cut", first - 1, 0, 1)])

    def test_what_was_cut_off_meets_its_opposite(self):
        # Without the cut by (1,) the row 2 has -1 still, and row 3 has 1: they can't be cut by 2.
        book = ((1,), (-1, 2, 4), (-2, 1, 5))
        ladder = [("book", 0), ("book", 1), ("cut", 0, 1, 1), ("book", 2), ("cut", 2, 3, 2)]
        self.assertEqual(claims_plainly(book, ladder)[-1], (1, 4, 5))
        self.told(book, ladder)
        book = ((-1,), (1, 2, 4), (-2, -1, 5))
        ladder = [("book", 0), ("book", 1), ("cut", 1, 0, 1), ("book", 2), ("cut", 2, 3, 2)]
        self.told(book, ladder)

    def test_opposite_single_says(self):
        self.told(((1,), (-1,)), [("book", 0), ("book", 1), ("cut", 0, 1, 1)])
        # Cut off by (1,) is -1 in the one row, by (-1,) 1 in the other.
        book = ((1,), (-1,), (-1, 2, 3), (-2, 1, 4))
        ladder = [
            ("book", 0), ("book", 1), ("book", 2), ("cut", 0, 2, 1), ("book", 3), ("cut", 4, 1, 1), ("cut", 3, 5, 2),
        ]
        self.assertEqual(claims_plainly(book, ladder)[-1], (3, 4))
        self.told(book, ladder)

    def test_a_say_that_is_cut_off_and_stays_in_the_last_claim(self):
        book = ((1,), (-1, 2), (-2, -1))
        ladder = [("book", 0), ("book", 1), ("cut", 0, 1, 1), ("book", 2), ("cut", 2, 3, 2)]
        self.assertEqual(claims_plainly(book, ladder)[-1], (-1,))
        self.told(book, ladder)

    def test_several_single_says(self):
        book = ((1,), (2,), (3,), (4,), (-4, -3, -2, -1, 5), (-5, 6))
        ladder = [("book", 0), ("book", 4), ("cut", 0, 1, 1)]
        for number in (1, 2, 3):
            ladder.extend([("book", number), ("cut", len(ladder), len(ladder) - 1, number + 1)])
        ladder.extend([("book", 5), ("cut", len(ladder) - 1, len(ladder), 5)])
        self.assertEqual(claims_plainly(book, ladder)[-1], (6,))
        shorter, first = self.told(book, ladder)
        self.assertEqual(claims_plainly(book, shorter)[-1], (6,))

    def test_two_hundred_rows(self):
        shorter, first = self.told(CHAIN_BOOK, chain_ladder(200))
        self.assertEqual(claims_plainly(CHAIN_BOOK, shorter)[-1], (2,))
        self.told(BOOK, [("book", 0)] * 200)

    def test_by_chance(self):
        late = [0] * 9
        for book, ladder in [*some_ladders(), *some_dense_ladders()]:
            shorter, first = self.told(book, ladder)
            late[len(shorter) - first] += 1
        for number, chance in enumerate(chances(400)):
            book = (some_short_book(chance, number) + tuple((say,) for say in some_claim(chance)))[-16:]
            shorter, first = self.told(book, some_ladder(chance, book, chance.randint(3, 40)))
            late[len(shorter) - first] += 1
        for book, ladder in some_single_ladders(600):
            shorter, first = self.told(book, ladder)
            late[len(shorter) - first] += 1
        self.assertGreater(late[0], 50)
        self.assertGreater(late[1], 50)
        self.assertGreater(late[2], 50)
        self.assertGreater(sum(late[3:]), 10)


class Refusing(unittest.TestCase):
    def test_lists_that_are_no_ladder_go_ahead_of_all(self):
        for thing, at in wrong_lists():
            with self.assertRaises(NoLadder) as caught:
                put_off(BOOK, thing)
            self.assertEqual(caught.exception.at, at)
            for first in (0, 1, -1, len(thing), len(thing) + 1, FORTY_FIGURES):
                with self.assertRaises(NoLadder) as caught:
                    is_put_off(BOOK, thing, first)
                self.assertEqual(caught.exception.at, at)


if __name__ == "__main__":
    unittest.main()
