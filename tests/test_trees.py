"""Point 13: trees by a book, their claims, their pieces and their cuts."""

import unittest

from sparecut.trees import claim_of_tree, cuts_of_tree, how_many_pieces, is_tree
from tests.helper import (
    BOOK, CHAIN_BOOK, FORTY_FIGURES, LADDER, ROUND, asked_twice, chain_tree, chances, deep, deep_round_tree, odd_things,
    pieces_plainly, round_tree, some_short_book, some_trees, tree_claim_plainly, within_plainly,
)

# By BOOK: (1, 2) and (-1, 2) cut by 1, then (-2, 3) cut by 2.
TWO = ("cut", ("book", 0), ("book", 1), 1)
THREE = ("cut", TWO, ("book", 2), 2)


def doubled(many, tree):
    """A thing of which each part is twice the next one: its pieces couldn't be counted."""
    for turn in range(many):
        tree = ("cut", tree, tree, 1)
    return tree


def put_in(tree, way, thing):
    """The tree with the thing in the place to which the way leads: a tuple of places in tuples."""
    if not way:
        return thing
    return tuple(put_in(part, way[1:], thing) if at == way[0] else part for at, part in enumerate(tree))


class BeingATree(unittest.TestCase):
    def is_so(self, book, thing):
        self.assertIs(asked_twice(self, is_tree, book, thing), True, thing)

    def is_not_so(self, book, thing):
        self.assertIs(is_tree(book, thing), False)

    def test_ordinary_trees(self):
        self.is_so(BOOK, TWO)
        self.is_so(BOOK, THREE)
        self.is_so(BOOK, ("cut", THREE, ("book", 3), 3))

    def test_claims_of_the_book(self):
        for number in range(len(BOOK)):
            self.is_so(BOOK, ("book", number))
        self.is_so(((),), ("book", 0))
        self.is_so(((1,),) * 16, ("book", 15))

    def test_numbers_beyond_the_book(self):
        for number in (len(BOOK), len(BOOK) + 1, 16, -1, -len(BOOK), FORTY_FIGURES, -FORTY_FIGURES):
            self.is_not_so(BOOK, ("book", number))
            self.is_not_so(BOOK, ("cut", ("book", number), ("book", 1), 1))
            self.is_not_so(BOOK, ("cut", ("book", 0), ("book", number), 1))
            self.is_not_so(BOOK, put_in(THREE, (1, 1, 1), number))
        self.is_not_so(((1,),), ("book", 1))

    def test_truths_in_the_place_of_numbers(self):
        for truth in (True, False):
            self.is_not_so(BOOK, ("book", truth))
            self.is_not_so(BOOK, put_in(TWO, (1, 1), truth))
            self.is_not_so(BOOK, put_in(TWO, (2, 1), truth))
            self.is_not_so(BOOK, put_in(TWO, (3,), truth))
            self.is_not_so(BOOK, put_in(THREE, (1, 3), truth))

    def test_lists_in_the_place_of_tuples(self):
        self.is_not_so(BOOK, ["book", 0])
        self.is_not_so(BOOK, list(TWO))
        self.is_not_so(BOOK, put_in(TWO, (1,), ["book", 0]))
        self.is_not_so(BOOK, put_in(TWO, (2,), ["book", 1]))
        self.is_not_so(BOOK, put_in(THREE, (1,), list(TWO)))
        self.is_not_so(BOOK, put_in(THREE, (1, 1), ["book", 0]))
        self.is_not_so(BOOK, LADDER)
        self.is_not_so(BOOK, [("book", 0)])

    def test_cuts_that_can_not_be(self):
        for k in (0, 2, 3, 8, 9, -1, -2, FORTY_FIGURES, -FORTY_FIGURES, None, "1", (1,), [1]):
            self.is_not_so(BOOK, ("cut", ("book", 0), ("book", 1), k))
        self.is_not_so(BOOK, ("cut", ("book", 1), ("book", 0), 1))
        self.is_not_so(BOOK, ("cut", ("book", 0), ("book", 0), 1))
        self.is_not_so(BOOK, ("cut", ("book", 6), ("book", 6), 1))
        # (-1, 2) and (-2, 1) would leave opposite says behind.
        self.is_not_so(BOOK, ("cut", ("book", 4), ("book", 1), 1))
        self.is_not_so(BOOK, ("cut", ("book", 1), ("book", 4), 2))
        self.is_not_so(((9,), (-9,)), ("cut", ("book", 0), ("book", 1), 9))

    def test_a_wrong_part_deep_within(self):
        self.is_not_so(BOOK, put_in(THREE, (1, 3), 2))
        self.is_not_so(BOOK, put_in(THREE, (1, 1, 1), 3))
        self.is_not_so(BOOK, ("cut", ("cut", ("book", 1), ("book", 0), 1), ("book", 2), 2))
        # Its own parts would fit if only the wrong part were none.
        self.is_not_so(BOOK, ("cut", TWO, ("cut", ("book", 2), None, 2), 2))

    def test_rows_of_ladders_are_no_trees(self):
        self.is_not_so(BOOK, ("cut", 0, 1, 1))
        for row in LADDER:
            self.assertIs(is_tree(BOOK, row), row[0] == "book")

    def test_other_words_and_lengths(self):
        for thing in (
            (), ("book",), ("cut",), ("book", 0, 0), ("book", 0, 0, 1), ("cut", TWO), ("cut", 0), TWO[:3], TWO + (1,),
            ("Book", 0), ("books", 0), ("", 0), (0, "book"), (None, 0), (("book",), 0), (["book"], 0), ("cut", 0, 0),
            ("CUT",) + TWO[1:], ("book",) + TWO[1:], ("cot",) + TWO[1:], ("cut", 1, ("book", 0), ("book", 1)),
            ("book", "0"), ("book", None), ("book", (0,)), ("book", [0]), ("book", ("book", 0)),
        ):
            self.is_not_so(BOOK, thing)
            self.is_not_so(BOOK, ("cut", thing, ("book", 1), 1))
            self.is_not_so(BOOK, ("cut", ("book", 0), thing, 1))

    def test_anything_odd(self):
        for thing in odd_things():
            # This one thing alone is a tree by BOOK.
            if thing != ("book", 0):
                self.is_not_so(BOOK, thing)
                self.is_not_so(BOOK, ("cut", thing, ("book", 1), 1))
                self.is_not_so(BOOK, ("cut", ("book", 0), thing, 1))
            if type(thing) is not int:
                self.is_not_so(BOOK, ("cut", ("book", 0), ("book", 1), thing))
                self.is_not_so(BOOK, ("book", thing))

    def test_sixty_within_one_another(self):
        for thing in (deep(60, 1), deep(59, ("book", 0)), deep(59, ("book", 0), True), chain_tree(59), chain_tree(60)):
            self.is_not_so(CHAIN_BOOK, thing)
        thing = ("book", 0)
        for turn in range(58):
            thing = ("cut", thing, thing, thing)
        self.is_not_so(BOOK, thing)

    def test_forty_and_forty_one_within_one_another(self):
        for within in (1, 2, 3, 39, 40):
            self.assertEqual(within_plainly(chain_tree(within)), within)
            self.is_so(CHAIN_BOOK, chain_tree(within))
        for within in (41, 42, 50):
            self.is_not_so(CHAIN_BOOK, chain_tree(within))

    def test_forty_within_one_another_in_either_part(self):
        # The chain hangs in the second part: (-1, 2) with (1,), and so on.
        for within in (39, 40, 41):
            tree = ("book", 0)
            book = ((-1,), (-2, 1), (-1, 2))
            for turn in range(within - 1):
                tree = ("cut", ("book", 2), tree, 2) if turn % 2 else ("cut", ("book", 1), tree, 1)
            self.assertEqual(within_plainly(tree), within)
            self.assertIsNotNone(tree_claim_plainly(book, tree))
            self.assertIs(is_tree(book, tree), within <= 40)

    def test_360_pieces_and_more(self):
        for cuts in (0, 1, 178, 179):
            tree = round_tree(cuts)
            self.assertEqual(len(pieces_plainly(tree)), 2 * cuts + 1)
            self.assertLessEqual(within_plainly(tree), 40)
            self.is_so(ROUND, tree)
        for cuts in (180, 181, 200, 400):
            tree = round_tree(cuts)
            self.assertLessEqual(within_plainly(tree), 40)
            self.assertIsNotNone(tree_claim_plainly(ROUND, tree))
            self.is_not_so(ROUND, tree)

    def test_the_greatest_of_both(self):
        for cuts, within in ((179, 40), (179, 39), (180, 40), (179, 41), (180, 41)):
            tree = deep_round_tree(cuts, within)
            self.assertEqual((len(pieces_plainly(tree)), within_plainly(tree)), (2 * cuts + 1, within))
            self.assertIsNotNone(tree_claim_plainly(ROUND, tree))
            self.assertIs(is_tree(ROUND, tree), cuts <= 179 and within <= 40)

    def test_more_pieces_than_could_be_counted(self):
        for many in (8, 9, 39, 40, 58):
            self.is_not_so(((1,), (-1,)), doubled(many, ("book", 0)))
            self.is_not_so(((1,), (-1,)), doubled(many, None))
            self.is_not_so(((1,), (-1,)), doubled(many, []))

    def test_the_parts_of_a_tree_may_be_one_and_the_same(self):
        book = ((1, 2), (-1, 2), (-2, 3), (-3, -2))
        part = ("cut", ("book", 0), ("book", 1), 1)
        tree = ("cut", ("cut", part, ("book", 2), 2), ("cut", part, ("book", 3), 2), 3)
        self.is_so(book, tree)
        self.assertEqual((claim_of_tree(book, tree), how_many_pieces(tree)), ((), 11))

    def test_it_is_of_the_book(self):
        self.is_not_so(((1, 2), (-1, 2)), THREE)
        self.is_so(((1, 2), (-1, 2), (-2,)), THREE)
        self.is_not_so(((1, 2), (1, 2), (-2,)), THREE)

    def test_by_chance(self):
        many = 0
        for number, chance in enumerate(chances(60)):
            book = some_short_book(chance, number) if number % 3 else ROUND
            for tree in some_trees(chance, book, 30)[::4]:
                many += tree[0] == "cut"
                self.is_so(book, tree)
                other = some_short_book(chance, number)
                self.assertIs(is_tree(other, tree), tree_claim_plainly(other, tree) is not None)
        self.assertGreater(many, 100)


class OfATree(unittest.TestCase):
    def test_ordinary_trees(self):
        self.assertEqual(claim_of_tree(BOOK, TWO), (2,))
        self.assertEqual(claim_of_tree(BOOK, THREE), (3,))
        self.assertEqual(claim_of_tree(BOOK, ("cut", THREE, ("book", 3), 3)), ())
        self.assertEqual((how_many_pieces(TWO), cuts_of_tree(TWO)), (3, 1))
        self.assertEqual((how_many_pieces(THREE), cuts_of_tree(THREE)), (5, 2))

    def test_claims_of_the_book(self):
        for number in range(len(BOOK)):
            self.assertEqual(claim_of_tree(BOOK, ("book", number)), BOOK[number])
            self.assertEqual(how_many_pieces(("book", number)), 1)
            self.assertEqual(cuts_of_tree(("book", number)), 0)

    def test_alike_pieces_are_counted_each(self):
        part = ("cut", ("book", 0), ("book", 1), 2)
        tree = ("cut", ("cut", part, ("book", 2), 1), ("book", 1), 2)
        self.assertEqual((how_many_pieces(tree), cuts_of_tree(tree)), (7, 3))

    def test_the_greatest_trees(self):
        self.assertEqual((how_many_pieces(round_tree(179)), cuts_of_tree(round_tree(179))), (359, 179))
        self.assertEqual(claim_of_tree(ROUND, round_tree(179)), (-1, 2))
        self.assertEqual((how_many_pieces(chain_tree(40)), cuts_of_tree(chain_tree(40))), (79, 39))
        self.assertEqual(claim_of_tree(CHAIN_BOOK, chain_tree(40)), (2,))
        self.assertEqual(claim_of_tree(CHAIN_BOOK, chain_tree(39)), (1,))

    def test_trees_somewhat_beyond_the_limit(self):
        self.assertEqual((how_many_pieces(round_tree(200)), cuts_of_tree(round_tree(200))), (401, 200))
        self.assertEqual(claim_of_tree(ROUND, round_tree(200)), (-1, 2))
        self.assertEqual(claim_of_tree(CHAIN_BOOK, chain_tree(50)), (2,))

    def test_by_chance(self):
        for number, chance in enumerate(chances(60)):
            book = some_short_book(chance, number) if number % 3 else ROUND
            for tree in some_trees(chance, book, 30)[::4]:
                pieces = pieces_plainly(tree)
                self.assertEqual(asked_twice(self, claim_of_tree, book, tree), tree_claim_plainly(book, tree))
                self.assertEqual(how_many_pieces(tree), len(pieces))
                self.assertEqual(cuts_of_tree(tree), sum(1 for piece in pieces if piece[0] == "cut"))
                self.assertIs(type(cuts_of_tree(tree)), int)


if __name__ == "__main__":
    unittest.main()
