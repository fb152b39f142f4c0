"""Points 7 and 8: ladders by a book, their claims, cuts and heights, NoLadder and its field at."""

import unittest

from sparecut.backing import pieces_of, tree_of
from sparecut.bare import is_bare, made_bare
from sparecut.errors import NoLadder
from sparecut.ladders import claims_of, heights, how_many_cuts, is_ladder
from sparecut.late import put_off
from sparecut.once import told_once
from sparecut.standing import needed, stands_on, trimmed
from tests.helper import (
    BOOK, LADDER, asked_twice, chances, claims_plainly, deep, fault_plainly, odd_things, some_book, some_ladder,
    some_ladders, wrong_lists, wrong_rows,
)

# Behind a row of the claim (1, 2) and one of the claim (-2, 3) none of these is a row.
ODD_ROWS = [thing for thing in odd_things() if thing != ("book", 0)]
ALL_OF_A_LADDER = [
    claims_of, heights, how_many_cuts, stands_on, needed, trimmed, told_once, is_bare, made_bare, pieces_of, tree_of,
    put_off,
]


class BeingALadder(unittest.TestCase):
    def is_so(self, book, thing):
        self.assertIs(is_ladder(book, thing), True, thing)

    def is_not_so(self, book, thing):
        self.assertIs(is_ladder(book, thing), False, thing)

    def test_ordinary_ladders(self):
        for many in range(1, len(LADDER) + 1):
            self.is_so(BOOK, LADDER[:many])

    def test_one_row(self):
        for number in range(len(BOOK)):
            self.is_so(BOOK, [("book", number)])
        self.is_so(((),), [("book", 0)])
        self.is_not_so(BOOK, [("cut", 0, 0, 1)])
        self.is_not_so(BOOK, [("cut", 0, 1, 1)])

    def test_all_sixteen_claims_of_a_book(self):
        book = ((1,),) * 16
        self.is_so(book, [("book", number) for number in range(16)])
        self.is_not_so(book, [("book", 16)])

    def test_up_to_two_hundred_rows(self):
        for many in (199, 200):
            self.is_so(BOOK, [("book", 0)] * many)
            self.is_so(BOOK, (LADDER + [("cut", 0, 1, 1)] * 200)[:many])
        for many in (0, 201, 202, 400):
            self.is_not_so(BOOK, [("book", 0)] * many)

    def test_the_same_row_may_be_cut_twice(self):
        self.is_so(BOOK, LADDER[:3] + [("cut", 0, 1, 1), ("book", 2), ("cut", 3, 4, 2), ("cut", 2, 4, 2)])

    def test_a_row_of_no_says_is_a_row(self):
        self.is_so(((1,), (-1,)), [("book", 0), ("book", 1), ("cut", 0, 1, 1), ("book", 0)])
        self.is_so(((), (1,)), [("book", 0), ("book", 1)])

    def test_each_wrong_list(self):
        for thing, at in wrong_lists():
            self.is_not_so(BOOK, thing)

    def test_anything_odd(self):
        for thing in odd_things():
            self.is_not_so(BOOK, thing)
        for row in ODD_ROWS:
            self.is_not_so(BOOK, [row])
            self.is_not_so(BOOK, [("book", 0), row])
            self.is_not_so(BOOK, [("book", 0), ("book", 2), row, ("book", 0)])

    def test_things_that_are_no_lists(self):
        for thing in (tuple(LADDER), (LADDER,), ("book", 0), (("book", 0),), "book 0", None, 1, True, False):
            self.is_not_so(BOOK, thing)
        self.is_not_so(BOOK, [LADDER])
        self.is_not_so(BOOK, deep(59, ("book", 0), True))

    def test_it_is_of_the_book(self):
        self.is_not_so(((1, 2), (-1, 2)), LADDER)
        self.is_not_so(((1, 2), (1, 2), (-2, 3), (-3,)), LADDER)
        self.is_so(((1, 2), (-1, 2), (-2, 3), (-3,)), LADDER)

    def test_by_chance(self):
        for book, ladder in some_ladders():
            self.is_so(book, ladder)
            self.is_not_so(book, tuple(ladder))

    def test_what_is_handed_in_stays(self):
        for thing in odd_things() + [LADDER, list(LADDER) + [["book", 0]]]:
            asked_twice(self, is_ladder, BOOK, thing)


class Refusing(unittest.TestCase):
    def refused(self, ask, book, thing, at):
        with self.assertRaises(NoLadder) as caught:
            ask(book, thing)
        self.assertIs(type(caught.exception), NoLadder)
        self.assertIs(type(caught.exception.at), int)
        self.assertEqual(caught.exception.at, at, (ask.__name__, thing))

    def test_each_wrong_list_by_all_that_take_a_ladder(self):
        for thing, at in wrong_lists():
            self.assertEqual(fault_plainly(BOOK, thing), at, thing)
            for ask in ALL_OF_A_LADDER:
                self.refused(ask, BOOK, thing, at)

    def test_no_rows(self):
        for ask in ALL_OF_A_LADDER:
            self.refused(ask, BOOK, [], 0)

    def test_row_two_hundred_never_is_one(self):
        for ask in ALL_OF_A_LADDER:
            ask(BOOK, [("book", 0)] * 200)
            self.refused(ask, BOOK, [("book", 0)] * 201, 200)
            self.refused(ask, BOOK, [("book", 0)] * 201 + [None], 200)

    def test_lists_of_anything(self):
        for ask in ALL_OF_A_LADDER:
            for thing in odd_things():
                if isinstance(thing, list):
                    self.refused(ask, BOOK, thing, 0)
            for row in ODD_ROWS:
                self.refused(ask, BOOK, [row], 0)
                self.refused(ask, BOOK, [("book", 0), ("book", 2), row, ("book", 0)], 2)

    def test_a_row_made_wrong_by_chance(self):
        for chance, (book, ladder) in zip(chances(90), some_ladders()):
            at = chance.randrange(len(ladder))
            row = chance.choice([None, ["book", 0], ("book", len(book)), ("cut", 0, at, 1), ("book", True)])
            wrong = ladder[:at] + [row] + ladder[at + 1:]
            self.assertEqual(fault_plainly(book, wrong), at)
            for ask in ALL_OF_A_LADDER:
                self.refused(ask, book, wrong, at)

    def test_numbers_by_chance(self):
        faults = set()
        for chance in chances(300):
            book = some_book(chance, 3, 2, 3)
            rows = some_ladder(chance, book, chance.randint(1, 8))
            for turn in range(4):
                word = chance.choice(("book", "cut"))
                rows.append((word, *(chance.randint(-1, 9) for part in range(1 if word == "book" else 3))))
            at = fault_plainly(book, rows)
            faults.add(at)
            for ask in ALL_OF_A_LADDER:
                if at is None:
                    ask(book, rows)
                else:
                    self.refused(ask, book, rows, at)
            self.assertIs(is_ladder(book, rows), at is None)
        self.assertGreater(len(faults), 5)

    def test_what_is_refused_stays_as_it_was(self):
        for row in wrong_rows(BOOK, 3):
            for ask in ALL_OF_A_LADDER:
                rows = LADDER[:3] + [row]
                before = repr(rows)
                self.refused(ask, BOOK, rows, 3)
                self.assertEqual(repr(rows), before)


class ClaimsOfLadders(unittest.TestCase):
    def test_an_ordinary_ladder(self):
        right = [(1, 2), (-1, 2), (2,), (-2, 3), (3,), (-3,), ()]
        self.assertEqual(claims_of(BOOK, LADDER), right)

    def test_one_row(self):
        self.assertEqual(claims_of(BOOK, [("book", 3)]), [(-3,)])
        self.assertEqual(claims_of(BOOK, [("book", 6)]), [()])

    def test_by_chance(self):
        for book, ladder in some_ladders():
            told = asked_twice(self, claims_of, book, ladder)
            self.assertIs(type(told), list)
            self.assertEqual(told, claims_plainly(book, ladder))

    def test_more_claims_than_a_book_has(self):
        book = ((1,),) * 17 + ((-1,),)
        ladder = [("book", 16), ("book", 17), ("cut", 0, 1, 1)]
        self.assertEqual(claims_of(book, ladder), [(1,), (-1,), ()])


class CutsAndHeights(unittest.TestCase):
    def test_an_ordinary_ladder(self):
        self.assertEqual(heights(BOOK, LADDER), [0, 0, 1, 0, 2, 0, 3])
        self.assertEqual(how_many_cuts(BOOK, LADDER), 3)

    def test_the_greater_one_of_two_rows_tells(self):
        # Once the higher row is the one with k, once the one with -k.
        book = ((1, 2), (-1, 2), (-2, 3), (-3, 2))
        rows = [("book", 0), ("book", 1), ("cut", 0, 1, 1), ("book", 2), ("cut", 2, 3, 2), ("book", 3)]
        self.assertEqual(heights(book, rows + [("cut", 4, 5, 3)]), [0, 0, 1, 0, 2, 0, 3])
        book = ((-2, 1), (-2, -1), (2, 3), (-3,))
        rows = [("book", 0), ("book", 1), ("cut", 0, 1, 1), ("book", 2), ("cut", 3, 2, 2)]
        self.assertEqual(heights(book, rows), [0, 0, 1, 0, 2])

    def test_one_row(self):
        self.assertEqual(heights(BOOK, [("book", 0)]), [0])
        self.assertEqual(how_many_cuts(BOOK, [("book", 0)]), 0)

    def test_cuts_that_nobody_needs_are_counted(self):
        self.assertEqual(how_many_cuts(BOOK, LADDER + [("book", 0)]), 3)
        self.assertEqual(how_many_cuts(BOOK, LADDER[:2] + [("cut", 0, 1, 1)] * 198), 198)

    def test_by_chance(self):
        for book, ladder in some_ladders():
            right = []
            for row in ladder:
                right.append(0 if row[0] == "book" else max(right[row[1]] + 1, right[row[2]] + 1))
            told = asked_twice(self, heights, book, ladder)
            self.assertIs(type(told), list)
            self.assertEqual(told, right)
            many = asked_twice(self, how_many_cuts, book, ladder)
            self.assertIs(type(many), int)
            self.assertEqual(many, sum(1 for row in ladder if len(row) == 4))

    def test_a_high_ladder(self):
        # Two rows cut to and fro: each cut stands on the one ahead of it.
        book = ((-2, 1), (-1, 2), (1,))
        rows = [("book", 0), ("book", 1), ("book", 2)]
        while len(rows) < 200:
            last = len(rows) - 1
            rows.append(("cut", last, 1, 1) if len(rows) % 2 else ("cut", last, 0, 2))
        self.assertEqual(heights(book, rows), [0, 0, 0] + list(range(1, 198)))
        self.assertEqual(how_many_cuts(book, rows), 197)


if __name__ == "__main__":
    unittest.main()
