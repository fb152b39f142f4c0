"""Point 14: ladders put back into trees, TooGreat; the rows of a tree."""

import unittest

from sparecut.backing import pieces_of, rows_of, tree_of
from sparecut.errors import NoLadder, TooGreat
from sparecut.ladders import is_ladder
from sparecut.trees import is_tree
from tests.helper import (
    BOOK, CHAIN_BOOK, LADDER, ROUND, asked_twice, chain_ladder, chain_tree, chances, claims_plainly, deep_round_tree,
    doubling_ladder, fault_plainly, pieces_plainly, round_tree, some_dense_ladders, some_ladders, some_round_ladder,
    some_short_book, some_trees, tree_claim_plainly, under_plainly, within_plainly, wrong_lists,
)


def counts_plainly(ladder, number):
    """(pieces, within one another) of a row's tree, with what is reckoned once put down."""
    down = {}
    for at in sorted(under_plainly(ladder, number)):
        row = ladder[at]
        if row[0] == "book":
            down[at] = (1, 1)
        else:
            one, other = down[row[1]], down[row[2]]
            down[at] = (1 + one[0] + other[0], 1 + max(one[1], other[1]))
    return down[number]


def tree_plainly(ladder, number):
    row = ladder[number]
    if row[0] == "book":
        return row
    return ("cut", tree_plainly(ladder, row[1]), tree_plainly(ladder, row[2]), row[3])


def rows_plainly(tree):
    """The rows of a tree: its unlike pieces are looked for one by one, by what they are."""
    unlike = []
    for piece in pieces_plainly(tree):
        if piece not in unlike:
            unlike.append(piece)
    return [
        piece if piece[0] == "book" else ("cut", unlike.index(piece[1]), unlike.index(piece[2]), piece[3])
        for piece in unlike
    ]


class PutBack(unittest.TestCase):
    def told(self, book, ladder):
        """The tree that is told, or None where it is refused with TooGreat."""
        pieces, within = counts_plainly(ladder, len(ladder) - 1)
        many = asked_twice(self, pieces_of, book, ladder)
        self.assertIs(type(many), int)
        self.assertEqual(many, pieces)
        if pieces > 360 or within > 40:
            before = list(ladder)
            with self.assertRaises(TooGreat) as caught:
                tree_of(book, ladder)
            self.assertIs(type(caught.exception), TooGreat)
            self.assertEqual(ladder, before)
            return None
        tree = asked_twice(self, tree_of, book, ladder)
        self.assertEqual(tree, tree_plainly(ladder, len(ladder) - 1))
        self.assertIs(is_tree(book, tree), True)
        self.assertEqual(tree_claim_plainly(book, tree), claims_plainly(book, ladder)[-1])
        self.assertEqual(len(pieces_plainly(tree)), pieces)
        return tree

    def test_ordinary_ladders(self):
        two = ("cut", ("book", 0), ("book", 1), 1)
        three = ("cut", two, ("book", 2), 2)
        self.assertEqual(self.told(BOOK, LADDER), ("cut", three, ("book", 3), 3))
        self.assertEqual(pieces_of(BOOK, LADDER), 7)
        self.assertEqual(self.told(BOOK, LADDER[:3]), two)

    def test_one_row(self):
        self.assertEqual(self.told(BOOK, [("book", 4)]), ("book", 4))
        self.assertEqual(pieces_of(BOOK, [("book", 4)]), 1)

    def test_it_is_the_tree_of_the_last_row(self):
        self.assertEqual(self.told(BOOK, LADDER + [("book", 0)]), ("book", 0))
        self.assertEqual(self.told(BOOK, [("book", 1)] * 200), ("book", 1))
        # Rows that nobody needs aren't put back, however great their trees are.
        ladder = doubling_ladder(199) + [("book", 3)]
        self.assertEqual(self.told(ROUND, ladder), ("book", 3))
        self.assertEqual(self.told(CHAIN_BOOK, chain_ladder(199) + [("book", 1)]), ("book", 1))

    def test_a_row_that_is_used_twice_is_put_back_twice(self):
        book = ((1, 2), (-1, 2), (-2, 3), (-3, -2))
        ladder = [
            ("book", 0), ("book", 1), ("cut", 0, 1, 1), ("book", 2), ("cut", 2, 3, 2), ("book", 3), ("cut", 2, 5, 2),
            ("cut", 4, 6, 3),
        ]
        part = ("cut", ("book", 0), ("book", 1), 1)
        right = ("cut", ("cut", part, ("book", 2), 2), ("cut", part, ("book", 3), 2), 3)
        self.assertEqual(self.told(book, ladder), right)
        self.assertEqual(pieces_of(book, ladder), 11)

    def test_forty_and_forty_one_within_one_another(self):
        for many in range(3, 60):
            # Three rows of the book, of which the last is the lowest of the chain.
            within = many - 2
            self.assertEqual(self.told(CHAIN_BOOK, chain_ladder(many)), chain_tree(within) if within <= 40 else None)
        self.assertIsNotNone(self.told(CHAIN_BOOK, chain_ladder(42)))
        self.assertIsNone(self.told(CHAIN_BOOK, chain_ladder(43)))
        self.assertIsNone(self.told(CHAIN_BOOK, chain_ladder(200)))
        self.assertEqual(pieces_of(CHAIN_BOOK, chain_ladder(200)), 395)

    def test_360_pieces_and_more(self):
        for cuts in (177, 178, 179, 180, 181):
            for tree in (round_tree(cuts), deep_round_tree(cuts, 40)):
                rows = rows_plainly(tree)
                self.assertEqual(pieces_of(ROUND, rows), 2 * cuts + 1)
                self.assertEqual(self.told(ROUND, rows), tree if cuts <= 179 else None)
        self.assertIsNone(self.told(ROUND, rows_plainly(deep_round_tree(179, 41))))

    def test_pieces_that_double_up_to_two_hundred_rows(self):
        # Each six rows the least of the last six is at least twice as great.
        told = []
        for many in range(6, 201):
            ladder = doubling_ladder(many)
            tree = self.told(ROUND, ladder)
            told.append(pieces_of(ROUND, ladder))
            self.assertIs(tree is None, told[-1] > 360)
        for elder, later in zip(told, told[6:]):
            self.assertGreaterEqual(later, 2 * elder)
        self.assertEqual(told[-1], 73786976294838206463)

    def test_by_chance(self):
        seen = []
        for book, ladder in [*some_ladders(), *some_dense_ladders()]:
            seen.append(self.told(book, ladder) is None)
        for chance in chances(60):
            seen.append(self.told(ROUND, some_round_ladder(chance, chance.randint(40, 200))) is None)
        self.assertGreater(seen[-60:].count(True), 10)
        self.assertGreater(seen[-60:].count(False), 10)

    def test_lists_that_are_no_ladder(self):
        far = chain_ladder(100)
        more = [(far + [None], 100), (far + [("book", 3)], 100)]
        for thing, at in wrong_lists():
            for ask in (pieces_of, tree_of):
                with self.assertRaises(NoLadder) as caught:
                    ask(BOOK, thing)
                self.assertEqual(caught.exception.at, at)
        for thing, at in more:
            for ask in (pieces_of, tree_of):
                with self.assertRaises(NoLadder) as caught:
                    ask(CHAIN_BOOK, thing)
                self.assertEqual(caught.exception.at, at)


class RowsOfTrees(unittest.TestCase):
    def look_at(self, book, tree):
        told = asked_twice(self, rows_of, tree)
        self.assertIs(type(told), list)
        self.assertEqual(told, rows_plainly(tree))
        self.assertIsNone(fault_plainly(book, told))
        self.assertIs(is_ladder(book, told), True)
        self.assertEqual(tree_of(book, told), tree)
        self.assertEqual(pieces_of(book, told), len(pieces_plainly(tree)))
        self.assertEqual(len(set(told)), len(told))
        return told

    def test_ordinary_trees(self):
        tree = tree_plainly(LADDER, 6)
        self.assertEqual(self.look_at(BOOK, tree), LADDER)
        self.assertEqual(self.look_at(BOOK, ("book", 3)), [("book", 3)])

    def test_the_first_part_goes_first_then_the_second_then_the_cut(self):
        book = ((-2, 3), (1, 2), (-1, 2))
        tree = ("cut", ("cut", ("book", 1), ("book", 2), 1), ("book", 0), 2)
        right = [("book", 1), ("book", 2), ("cut", 0, 1, 1), ("book", 0), ("cut", 2, 3, 2)]
        self.assertEqual(self.look_at(book, tree), right)
        book = ((2, 3), (-2, 1), (-2, -1))
        tree = ("cut", ("book", 0), ("cut", ("book", 1), ("book", 2), 1), 2)
        right = [("book", 0), ("book", 1), ("book", 2), ("cut", 1, 2, 1), ("cut", 0, 3, 2)]
        self.assertEqual(self.look_at(book, tree), right)

    def test_alike_pieces_are_told_once(self):
        book = ((1, 2), (-1, 2), (-2, 3), (-3, -2))
        part = ("cut", ("book", 0), ("book", 1), 1)
        tree = ("cut", ("cut", part, ("book", 2), 2), ("cut", part, ("book", 3), 2), 3)
        right = [
            ("book", 0), ("book", 1), ("cut", 0, 1, 1), ("book", 2), ("cut", 2, 3, 2), ("book", 3), ("cut", 2, 5, 2),
            ("cut", 4, 6, 3),
        ]
        self.assertEqual(self.look_at(book, tree), right)

    def test_pieces_with_the_same_claim_are_unlike(self):
        book = ((1, 2), (-1, 2), (-2, 3), (-3, -2), (1, 2))
        one, other = ("cut", ("book", 0), ("book", 1), 1), ("cut", ("book", 4), ("book", 1), 1)
        tree = ("cut", ("cut", one, ("book", 2), 2), ("cut", other, ("book", 3), 2), 3)
        self.assertEqual(len(self.look_at(book, tree)), 10)

    def test_the_greatest_trees(self):
        for tree in (round_tree(179), deep_round_tree(179, 40)):
            self.assertLessEqual(len(self.look_at(ROUND, tree)), 195)
        self.assertEqual(len(self.look_at(CHAIN_BOOK, chain_tree(40))), 42)

    def test_by_chance(self):
        shorter = 0
        for number, chance in enumerate(chances(60)):
            book = some_short_book(chance, number) if number % 3 else ROUND
            for tree in some_trees(chance, book, 40)[::3]:
                told = self.look_at(book, tree)
                shorter += len(told) < len(pieces_plainly(tree))
                self.assertEqual(within_plainly(tree), counts_plainly(told, len(told) - 1)[1])
        self.assertGreater(shorter, 100)


if __name__ == "__main__":
    unittest.main()
