"""Point 15: regular trees."""

import unittest

from sparecut.regular import is_regular, made_regular
from sparecut.trees import is_tree
from tests.helper import (
    BOOK, CHAIN_BOOK, ROUND, asked_twice, chain_tree, chances, deep_round_tree, is_regular_plainly, pieces_plainly,
    round_tree, some_short_book, some_trees, tree_claim_plainly, wide_plainly, within_plainly,
)

# Cut by 1 once in each of two parts, of which neither is in the other.
TWO_WAYS_BOOK = ((1, 2), (-1, 2), (-2, 1, 3), (-2, -1, 3))
TWO_WAYS = ("cut", ("cut", ("book", 0), ("book", 1), 1), ("cut", ("book", 2), ("book", 3), 1), 2)
# Cut by 1 in a part of a cut by 1: (1, 2) and (-2, 1) by 2, with (-1, 2) by 1, which was cut by 1 itself.
ONE_WAY_BOOK = ((1, 2), (-2, 1), (-1, 3), (-3, -1, 2), (1, 3))
ONE_WAY = (
    "cut", ("cut", ("book", 0), ("book", 1), 2), ("cut", ("cut", ("book", 4), ("book", 2), 1), ("book", 3), 3), 1,
)


class BeingRegular(unittest.TestCase):
    def is_so(self, tree):
        self.assertIs(asked_twice(self, is_regular, tree), True, tree)

    def is_not_so(self, tree):
        self.assertIs(asked_twice(self, is_regular, tree), False, tree)

    def test_claims_of_the_book_and_single_cuts(self):
        self.is_so(("book", 0))
        self.is_so(("cut", ("book", 0), ("book", 1), 1))

    def test_a_thing_cut_twice_on_two_ways(self):
        self.assertEqual(tree_claim_plainly(TWO_WAYS_BOOK, TWO_WAYS), (3,))
        self.is_so(TWO_WAYS)

    def test_a_thing_cut_twice_on_one_way(self):
        self.assertEqual(tree_claim_plainly(ONE_WAY_BOOK, ONE_WAY), (2,))
        self.is_not_so(ONE_WAY)

    def test_right_above_it_and_far_above_it(self):
        self.assertEqual(tree_claim_plainly(CHAIN_BOOK, chain_tree(4)), (2,))
        self.is_so(chain_tree(1))
        self.is_so(chain_tree(2))
        self.is_so(chain_tree(3))
        self.is_not_so(chain_tree(4))
        self.is_not_so(chain_tree(40))
        # Only the first and the last of six cuts are by one thing, in the first part or in the second.
        for at in (1, 2):
            tree = ("cut", ("book", 0), ("book", 1), 6)
            for k in (1, 2, 3, 4, 5):
                tree = ("cut", tree, ("book", 0), k) if at == 1 else ("cut", ("book", 0), tree, k)
            self.is_so(("cut", tree, ("book", 0), 7) if at == 1 else ("cut", ("book", 0), tree, 7))
            self.is_not_so(("cut", tree, ("book", 0), 6) if at == 1 else ("cut", ("book", 0), tree, 6))

    def test_the_greatest_trees(self):
        self.is_not_so(round_tree(179))
        self.is_not_so(deep_round_tree(179, 40))

    def test_by_chance(self):
        seen = {True: 0, False: 0}
        for number, chance in enumerate(chances(60)):
            book = some_short_book(chance, number) if number % 3 else ROUND
            for tree in some_trees(chance, book, 40)[::2]:
                right = is_regular_plainly(tree)
                seen[right] += 1
                self.assertIs(is_regular(tree), right)
        self.assertGreater(seen[True], 100)
        self.assertGreater(seen[False], 100)


class MadeRegular(unittest.TestCase):
    def told(self, book, tree):
        told = asked_twice(self, made_regular, book, tree)
        self.assertIs(type(told), tuple)
        self.assertIs(is_tree(book, told), True)
        self.assertTrue(is_regular_plainly(told), told)
        self.assertIs(is_regular(told), True)
        claim = tree_claim_plainly(book, told)
        self.assertIsNotNone(claim)
        self.assertTrue(wide_plainly(claim, tree_claim_plainly(book, tree)))
        self.assertLessEqual(len(pieces_plainly(told)), len(pieces_plainly(tree)))
        # Eight things at most are cut on a way.
        self.assertLessEqual(within_plainly(told), 9)
        return told

    def test_regular_trees(self):
        for number in range(len(BOOK)):
            self.assertEqual(tree_claim_plainly(BOOK, self.told(BOOK, ("book", number))), BOOK[number])
        self.told(BOOK, ("cut", ("book", 0), ("book", 1), 1))
        self.told(TWO_WAYS_BOOK, TWO_WAYS)

    def test_a_thing_cut_twice_on_one_way(self):
        # Without its inner cut by 1 there is no way but to leave that out.
        self.assertLess(len(pieces_plainly(self.told(ONE_WAY_BOOK, ONE_WAY))), len(pieces_plainly(ONE_WAY)))

    def test_the_say_may_be_below_0(self):
        # All says of ONE_WAY turned about, and its parts with them.
        def turned(tree):
            return tree if tree[0] == "book" else ("cut", turned(tree[2]), turned(tree[1]), tree[3])
        book = tuple(tuple(sorted(-say for say in claim)) for claim in ONE_WAY_BOOK)
        tree = turned(ONE_WAY)
        self.assertEqual(tree_claim_plainly(book, tree), (-2,))
        self.assertLess(len(pieces_plainly(self.told(book, tree))), len(pieces_plainly(tree)))

    def test_what_is_left_out_makes_a_claim_wider(self):
        # The tree tells (2, 3); regular it has to tell (2, 3) or more.
        book = ((1, 2), (-1, 2), (-2, 1), (-1, 3))
        tree = ("cut", ("cut", ("cut", ("book", 0), ("book", 1), 1), ("book", 2), 2), ("book", 3), 1)
        self.assertEqual(tree_claim_plainly(book, tree), (3,))
        self.assertEqual(tree_claim_plainly(book, self.told(book, tree)), (3,))
        book = ((1, 2), (-1, 3), (-2, 1), (-3, 1), (-1, 2, 3))
        tree = ("cut", ("cut", ("cut", ("cut", ("book", 0), ("book", 1), 1), ("book", 2), 2), ("book", 3), 3),
                ("book", 4), 1)
        self.assertEqual(tree_claim_plainly(book, tree), (2, 3))
        self.told(book, tree)

    def test_the_greatest_trees(self):
        for tree in (round_tree(179), deep_round_tree(179, 40)):
            self.assertEqual(tree_claim_plainly(ROUND, self.told(ROUND, tree)), (-1, 2))
        self.assertLessEqual(len(pieces_plainly(self.told(CHAIN_BOOK, chain_tree(40)))), 5)
        for within in range(1, 41):
            self.told(CHAIN_BOOK, chain_tree(within))

    def test_trees_somewhat_beyond_the_limit(self):
        self.assertTrue(is_regular_plainly(made_regular(ROUND, round_tree(200))))
        self.assertTrue(is_regular_plainly(made_regular(CHAIN_BOOK, chain_tree(50))))
        self.assertIs(is_regular(chain_tree(50)), False)

    def test_by_chance(self):
        shorter = wider = 0
        for number, chance in enumerate(chances(120)):
            book = some_short_book(chance, number) if number % 3 else ROUND
            for tree in some_trees(chance, book, 60)[::2]:
                told = self.told(book, tree)
                shorter += 1 < len(pieces_plainly(told)) < len(pieces_plainly(tree))
                wider += tree_claim_plainly(book, told) != tree_claim_plainly(book, tree)
        self.assertGreater(shorter, 200)
        self.assertGreater(wider, 10)


if __name__ == "__main__":
    unittest.main()
