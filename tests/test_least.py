"""Points 22 and 23: the fewest cuts and the least heights of trees by books of few things, and what can be spared."""

import unittest
from unittest import mock

from sparecut import least
from sparecut.errors import TooGreat, TooMany
from sparecut.least import least_cuts, least_heights, least_tree, to_spare
from sparecut.trees import is_tree
from tests.helper import (
    CHAIN_BOOK, FAR_BOOKS, FULL_FOUR, ROUND, ROUNDABOUT, asked_twice, chain_tree, cuts_of_plainly, every_claim,
    least_cuts_plainly, least_heights_plainly, pieces_plainly, round_tree, some_few_books, some_few_trees,
    tree_claim_plainly, wide_plainly, within_plainly,
)


class Numbers(unittest.TestCase):
    def told(self, book):
        cuts = asked_twice(self, least_cuts, book)
        heights = asked_twice(self, least_heights, book)
        for told in (cuts, heights):
            self.assertIs(type(told), dict)
            self.assertTrue(all(type(told[claim]) is int and type(claim) is tuple for claim in told))
        self.assertEqual(cuts, least_cuts_plainly(book), book)
        self.assertEqual(heights, least_heights_plainly(book), book)
        return cuts, heights

    def test_one_claim(self):
        for claim in ((), (1,), (-4,), (-2, 1), (-4, -2, 1, 3)):
            self.assertEqual(self.told((claim,)), ({claim: 0}, {claim: 0}))
            self.assertEqual(self.told((claim,) * 16), ({claim: 0}, {claim: 0}))

    def test_two_claims(self):
        self.assertEqual(self.told(((1,), (-1,)))[0], {(1,): 0, (-1,): 0, (): 1})
        self.assertEqual(self.told(((1, 2), (-2, 3)))[0], {(1, 2): 0, (-2, 3): 0, (1, 3): 1})
        # Two things that could be cut: what comes would have opposite says.
        self.assertEqual(self.told(((1, 2), (-2, -1)))[0], {(1, 2): 0, (-2, -1): 0})
        self.assertEqual(self.told(((1, 2), (1, 3)))[0], {(1, 2): 0, (1, 3): 0})

    def test_claims_of_the_book_need_no_cut(self):
        cuts, heights = self.told(((1,), (-1,), (), (1, 2), (-1, 2), (2,)))
        self.assertEqual((cuts[()], heights[()]), (0, 0))
        self.assertEqual((cuts[(2,)], heights[(2,)]), (0, 0))

    def test_all_claims_of_four_says(self):
        cuts, heights = self.told(FULL_FOUR)
        self.assertEqual(len(cuts), 81)
        self.assertEqual((cuts[()], heights[()]), (15, 4))
        for claim in cuts:
            self.assertEqual(heights[claim], 4 - len(claim))

    def test_cuts_side_by_side_and_one_behind_the_other(self):
        book = ((1,), (-1, 2), (-2, 3), (-3, 4))
        cuts, heights = self.told(book)
        self.assertEqual((cuts[(4,)], heights[(4,)]), (3, 2))

    def test_roundabout_ways(self):
        cuts, heights = self.told(ROUNDABOUT)
        self.assertGreater(max(cuts.values()), 15)
        self.assertGreater(max(heights.values()), 5)

    def test_by_chance(self):
        for book in some_few_books():
            self.told(book)

    def test_no_tree_has_fewer(self):
        for book, tree in some_few_trees():
            claim = tree_claim_plainly(book, tree)
            self.assertLessEqual(least_cuts(book)[claim], cuts_of_plainly(tree))
            self.assertLessEqual(least_heights(book)[claim], within_plainly(tree) - 1)

    def test_other_things_are_too_many(self):
        for book in FAR_BOOKS:
            for ask in (least_cuts, least_heights):
                with self.assertRaises(TooMany):
                    ask(book)


class Trees(unittest.TestCase):
    def told(self, book, claim):
        tree = asked_twice(self, least_tree, book, claim)
        cuts = least_cuts_plainly(book)
        if claim not in cuts:
            self.assertIsNone(tree)
            return None
        self.assertEqual(tree_claim_plainly(book, tree), claim)
        self.assertEqual(cuts_of_plainly(tree), cuts[claim])
        self.assertIs(is_tree(book, tree), True)
        return tree

    def test_claims_of_the_book(self):
        self.assertEqual(self.told(((1,), (2,)), (2,)), ("book", 1))
        self.assertIn(self.told(((1,), (2,), (2,)), (2,)), (("book", 1), ("book", 2)))
        self.assertEqual(self.told(((1,), (-1,), ()), ()), ("book", 2))

    def test_a_cut(self):
        self.assertEqual(self.told(((1, 2), (-2, 3)), (1, 3)), ("cut", ("book", 0), ("book", 1), 2))
        self.assertEqual(self.told(((-2, 3), (1, 2)), (1, 3)), ("cut", ("book", 1), ("book", 0), 2))

    def test_claims_that_no_tree_tells(self):
        for claim in ((), (1,), (1, 2, 3), (-1, 2), (2, 3), (-4,), (1, 2, 3, 4), (5,), (-8, 1, 3), (1, 8)):
            self.assertIsNone(self.told(((1, 2), (-2, 3)), claim))
        # It follows, but it isn't told by a tree.
        self.assertIsNone(self.told(((1,),), (1, 2)))
        self.assertIsNone(self.told(((),), (1,)))

    def test_every_claim_of_some_books(self):
        none, greatest = 0, 0
        for book in some_few_books()[::3] + some_few_books()[-8:]:
            for claim in every_claim(4):
                tree = self.told(book, claim)
                none += tree is None
                greatest = max(greatest, 0 if tree is None else cuts_of_plainly(tree))
        self.assertGreater(none, 100)
        self.assertGreater(greatest, 15)

    def test_other_things_are_too_many(self):
        for book in FAR_BOOKS:
            for claim in book[:2] + ((), (1,), (2, 5)):
                with self.assertRaises(TooMany):
                    least_tree(book, claim)

    def test_what_is_beyond_a_tree_is_refused(self):
        # No book is known whose least trees are that great: so the limits are set lower.
        pieces, within = len(pieces_plainly(self.told(FULL_FOUR, ()))), within_plainly(self.told(FULL_FOUR, ()))
        self.assertEqual((pieces, within), (31, 5))
        with mock.patch("sparecut.least.MOST_PIECES", 31), mock.patch("sparecut.least.MOST_WITHIN", 5):
            self.told(FULL_FOUR, ())
        for name, limit in (("MOST_PIECES", 30), ("MOST_WITHIN", 4)):
            with mock.patch(f"sparecut.least.{name}", limit):
                with self.assertRaises(TooGreat):
                    least_tree(FULL_FOUR, ())
                # What is less than that, and what isn't told, is told of as ever.
                self.told(FULL_FOUR, (1,))
                self.assertIsNone(least_tree(FULL_FOUR, (5,)))
                with self.assertRaises(TooMany):
                    least_tree(FULL_FOUR[:15] + ((5,),), ())

    def test_the_limits_are_those_of_trees(self):
        self.assertEqual((least.MOST_PIECES, least.MOST_WITHIN), (360, 40))


class Sparing(unittest.TestCase):
    def told(self, book, tree):
        told = asked_twice(self, to_spare, book, tree)
        self.assertIs(type(told), int)
        claim = tree_claim_plainly(book, tree)
        cuts = least_cuts_plainly(book)
        fewest = min(cuts[other] for other in cuts if wide_plainly(other, claim))
        self.assertEqual(told, cuts_of_plainly(tree) - fewest)
        self.assertGreaterEqual(told, 0)
        return told

    def test_nothing_to_spare(self):
        self.assertEqual(self.told(((1,),), ("book", 0)), 0)
        self.assertEqual(self.told(((1, 2), (-2, 3)), ("cut", ("book", 0), ("book", 1), 2)), 0)

    def test_a_claim_as_wide_may_be_told_with_fewer(self):
        book = ((1, 2), (-2, 3), (1,), (-1, 3))
        self.assertEqual(self.told(book, ("cut", ("book", 0), ("book", 1), 2)), 1)
        self.assertEqual(self.told(book + ((),), ("cut", ("book", 0), ("book", 1), 2)), 1)
        self.assertEqual(self.told(book + ((),), ("cut", ("book", 2), ("book", 3), 1)), 1)
        # Only a cut tells what is as wide.
        book = ((1, 2, 3), (-3, 1, 2), (-2, 1), (-1, 4), (-4, 1, 2), (1, 4))
        tree = ("cut", ("cut", ("book", 0), ("book", 1), 3), ("book", 3), 1)
        self.assertEqual(tree_claim_plainly(book, tree), (2, 4))
        self.told(book, tree)

    def test_all_cuts_can_be_spared(self):
        self.assertEqual(self.told(CHAIN_BOOK, chain_tree(39)), 38)
        self.assertEqual(self.told(CHAIN_BOOK, chain_tree(40)), 38)
        self.assertEqual(self.told(ROUND, round_tree(179)), 179)

    def test_by_chance(self):
        seen = {}
        for book, tree in some_few_trees():
            told = self.told(book, tree)
            seen[min(told, 3)] = seen.get(min(told, 3), 0) + 1
        for many in range(4):
            self.assertGreater(seen[many], 10)

    def test_other_things_are_too_many(self):
        for book in FAR_BOOKS:
            with self.assertRaises(TooMany):
                to_spare(book, ("book", 0))
        with self.assertRaises(TooMany):
            to_spare(((1, 2), (-2, 3), (8,)), ("cut", ("book", 0), ("book", 1), 2))


if __name__ == "__main__":
    unittest.main()
