"""Point 22: whether a dict from claims to numbers bears cuts, or heights."""

import unittest

from sparecut.bearing import bears_cuts, bears_heights
from sparecut.errors import TooMany
from sparecut.least import least_cuts, least_heights
from tests.helper import (
    FAR_BOOKS, FULL_FOUR, ROUND, asked_twice, chances, cuts_of_plainly, cuts_plainly, every_claim, least_cuts_plainly,
    least_heights_plainly, some_few_books, some_few_trees, tree_claim_plainly, within_plainly,
)

THIRTY_FIGURES = 10 ** 30 - 1


def bears_plainly(book, numbers, together):
    if any(claim not in numbers or numbers[claim] > 0 for claim in book):
        return False
    for one, other, claim in cuts_plainly():
        if one in numbers and other in numbers:
            if claim not in numbers or numbers[claim] > together(numbers[one], numbers[other]):
                return False
    return True


def bears_cuts_plainly(book, numbers):
    return bears_plainly(book, numbers, lambda one, other: one + other + 1)


def bears_heights_plainly(book, numbers):
    return bears_plainly(book, numbers, lambda one, other: 1 + max(one, other))


class Asking(unittest.TestCase):
    def cuts(self, right, book, numbers):
        self.assertIs(asked_twice(self, bears_cuts, book, numbers), right, (book, numbers))
        self.assertIs(bears_cuts_plainly(book, numbers), right, (book, numbers))

    def heights(self, right, book, numbers):
        self.assertIs(asked_twice(self, bears_heights, book, numbers), right, (book, numbers))
        self.assertIs(bears_heights_plainly(book, numbers), right, (book, numbers))

    def both(self, right, book, numbers):
        self.cuts(right, book, numbers)
        self.heights(right, book, numbers)


class Bearing(Asking):
    BOOK = ((1,), (-1, 2), (-2, 3))

    def setUp(self):
        self.least = {(1,): 0, (-1, 2): 0, (-2, 3): 0, (2,): 1, (-1, 3): 1, (3,): 2}

    def test_the_least_numbers_bear(self):
        self.assertEqual(least_cuts(self.BOOK), self.least)
        self.both(True, self.BOOK, self.least)
        for book in some_few_books():
            self.cuts(True, book, least_cuts_plainly(book))
            self.heights(True, book, least_heights_plainly(book))
            self.assertIs(bears_cuts(book, least_cuts(book)), True)
            self.assertIs(bears_heights(book, least_heights(book)), True)
            # What bears heights needn't bear cuts, but heights are never more than cuts.
            self.cuts(True, book, least_heights_plainly(book))

    def test_cuts_that_do_not_bear_heights(self):
        seen = 0
        for book in some_few_books():
            numbers = least_cuts_plainly(book)
            right = bears_heights_plainly(book, numbers)
            seen += not right
            self.heights(right, book, numbers)
        self.assertGreater(seen, 10)

    def test_one_number_more(self):
        for claim in self.least:
            for more in (1, 2, 5, THIRTY_FIGURES):
                self.both(False, self.BOOK, {**self.least, claim: self.least[claim] + more})

    def test_one_number_less(self):
        for claim in self.least:
            for less in (1, 2, 3, THIRTY_FIGURES):
                numbers = {**self.least, claim: self.least[claim] - less}
                self.cuts(bears_cuts_plainly(self.BOOK, numbers), self.BOOK, numbers)
                self.heights(bears_heights_plainly(self.BOOK, numbers), self.BOOK, numbers)
        # Nothing is cut out of (3,): so it may be told with less.
        self.both(True, self.BOOK, {**self.least, (3,): 1})
        self.both(True, self.BOOK, {**self.least, (3,): -THIRTY_FIGURES})
        # Out of (1,) all others come: told with less, they had to be told with less, too.
        self.cuts(False, self.BOOK, {**self.least, (1,): -1})
        # For heights the greater one of the two still stands as it was.
        self.heights(True, self.BOOK, {**self.least, (1,): -1})

    def test_the_same_number_for_all(self):
        all_claims = list(self.least)
        self.both(True, self.BOOK, {claim: 0 for claim in all_claims})
        self.both(False, self.BOOK, {claim: 1 for claim in all_claims})
        self.both(True, self.BOOK, {claim: -1 for claim in all_claims})
        self.cuts(False, self.BOOK, {claim: -2 for claim in all_claims})
        self.heights(True, self.BOOK, {claim: -2 for claim in all_claims})
        self.cuts(False, self.BOOK, {claim: -THIRTY_FIGURES for claim in all_claims})
        self.heights(True, self.BOOK, {claim: -THIRTY_FIGURES for claim in all_claims})
        self.both(False, self.BOOK, {claim: THIRTY_FIGURES for claim in all_claims})

    def test_all_claims_of_four_things(self):
        for book in (FULL_FOUR, ROUND, self.BOOK, ((),), ((1, 2),)):
            self.both(True, book, {claim: 0 for claim in every_claim(4)})
            self.both(True, book, {claim: -1 for claim in every_claim(4)})
            self.both(False, book, {claim: 0 for claim in every_claim(4) if claim != ()})

    def test_one_just_more_than_both_together_and_one(self):
        book = ((1, 2), (-2, 3))
        for one, other in ((0, 0), (0, -1), (-1, 0), (-3, -2), (-5, 0), (-THIRTY_FIGURES, 0)):
            numbers = {(1, 2): one, (-2, 3): other}
            self.cuts(True, book, {**numbers, (1, 3): one + other + 1})
            self.cuts(False, book, {**numbers, (1, 3): one + other + 2})
            self.heights(True, book, {**numbers, (1, 3): max(one, other) + 1})
            self.heights(False, book, {**numbers, (1, 3): max(one, other) + 2})

    def test_claims_of_the_book_with_more_than_nothing(self):
        self.both(True, ((1,),), {(1,): 0})
        self.both(False, ((1,),), {(1,): 1})
        self.both(True, ((1,),), {(1,): -1})
        self.both(False, ((1,), (2,)), {(1,): 0})
        self.both(False, ((2,), (1,)), {(1,): 0})
        self.both(False, ((1,), (2,)), {(1,): 0, (2,): THIRTY_FIGURES})

    def test_a_claim_left_out(self):
        for claim in self.least:
            numbers = {other: self.least[other] for other in self.least if other != claim}
            self.both(False, self.BOOK, numbers)
        # () is told by a cut alone.
        self.both(False, ((1,), (-1,)), {(1,): 0, (-1,): 0})
        self.both(True, ((1,), (-1,)), {(1,): 0, (-1,): 0, (): 1})

    def test_another_claim_put_in(self):
        self.both(True, self.BOOK, {**self.least, (4,): 7})
        self.both(True, self.BOOK, {**self.least, (3, 4): -7})
        # With what is put in others can be cut, and what comes isn't there.
        self.both(False, self.BOOK, {**self.least, (-3,): 7})
        self.both(False, self.BOOK, {**self.least, (-3, 4): 0})
        # Put in with numbers of their own, as if they were of the book.
        self.both(True, ((1,),), {(1,): 0, (-1, 2): 5, (2,): 6})
        self.heights(True, ((1,),), {(1,): 0, (-1, 2): 5, (2,): 5})
        self.both(False, ((1,),), {(1,): 0, (-1, 2): 5, (2,): 7})

    def test_no_claims_at_all(self):
        self.both(False, self.BOOK, {})
        self.both(False, ((),), {})
        self.both(True, ((),), {(): 0})

    def test_other_things_are_too_many(self):
        for book in FAR_BOOKS:
            for numbers in ({}, {(): 0}, {claim: 0 for claim in book}, {claim: 0 for claim in every_claim(4)}):
                for ask in (bears_cuts, bears_heights):
                    with self.assertRaises(TooMany):
                        ask(book, numbers)

    def test_by_chance(self):
        seen = {True: 0, False: 0}
        for number, book in enumerate(some_few_books()):
            chance = chances(200)[number]
            for turn in range(10):
                plainly = (least_cuts_plainly, least_heights_plainly)[turn % 2](book)
                numbers = {claim: plainly[claim] - chance.choice((0, 0, turn // 4)) for claim in plainly}
                claim = chance.choice(list(numbers))
                if turn % 5 == 0:
                    del numbers[claim]
                elif turn % 5 == 1:
                    numbers[chance.choice(every_claim(4))] = chance.randint(-2, 2)
                elif turn % 5 < 4:
                    numbers[claim] += chance.choice((-2, -1, 1))
                ask = (self.cuts, self.heights)[turn % 2]
                right = (bears_cuts_plainly, bears_heights_plainly)[turn % 2](book, numbers)
                seen[right] += 1
                ask(right, book, numbers)
        self.assertGreater(seen[True], 100)
        self.assertGreater(seen[False], 100)

    def test_no_tree_goes_below_what_bears(self):
        for book, tree in some_few_trees():
            claim = tree_claim_plainly(book, tree)
            numbers = {one: max(0, many - 1) for one, many in least_cuts_plainly(book).items()}
            if bears_cuts(book, numbers):
                self.assertLessEqual(numbers[claim], cuts_of_plainly(tree))
            numbers = {one: max(0, many - 1) for one, many in least_heights_plainly(book).items()}
            if bears_heights(book, numbers):
                self.assertLessEqual(numbers[claim], within_plainly(tree) - 1)


if __name__ == "__main__":
    unittest.main()
