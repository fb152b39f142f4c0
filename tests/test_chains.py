"""Point 24: chains from a ladder, and ladders shortened till they are bare."""

import itertools
import unittest

from sparecut.bare import made_bare
from sparecut.chains import is_chain, shortened
from sparecut.errors import NoLadder
from sparecut.once import told_once
from sparecut.standing import trimmed
from tests.helper import (
    BOOK, CHAIN_BOOK, LADDER, ROUND, asked_twice, chain_ladder, chances, claims_plainly, doubling_ladder, fault_plainly,
    how_many_cuts_plainly, look_at_shorter, odd_things, some_dense_ladders, some_ladder, some_ladders,
    some_round_ladder, some_short_book, under_plainly, wide_plainly, wrong_lists, wrong_rows,
)


def is_bare_plainly(book, ladder):
    claims = claims_plainly(book, ladder)
    if under_plainly(ladder, len(ladder) - 1) != set(range(len(ladder))):
        return False
    if any(wide_plainly(one, other) for one, other in itertools.combinations(claims, 2)):
        return False
    cuts = [claim for row, claim in zip(ladder, claims) if row[0] == "cut"]
    return not any(wide_plainly(one, claim) for one in book for claim in cuts)


def is_next_plainly(book, one, other):
    """Whether other may stand behind one in a chain."""
    if not wide_plainly(claims_plainly(book, other)[-1], claims_plainly(book, one)[-1]):
        return False
    sizes = [(len(ladder), how_many_cuts_plainly(ladder)) for ladder in (one, other)]
    return sizes[1] < sizes[0] and sizes[1][1] <= sizes[0][1]


def is_chain_plainly(book, ladder, thing):
    for part in thing:
        if type(part) is not list or fault_plainly(book, part) is not None:
            return False
    if not thing or thing[0] != ladder:
        return False
    return all(is_next_plainly(book, one, other) for one, other in zip(thing, thing[1:]))


# Rows that nobody needs, a claim told twice, a cut that the book tells, and the last claim told more widely.
CHAIN_OF_FIVE_BOOK = ((1, 2), (-2, 1), (1, 3), (-3, 1), (-1, 4), (-1, 5), (1,))
CHAIN_OF_FIVE = [
    [("book", 0), ("book", 1), ("cut", 0, 1, 2), ("book", 2), ("book", 4), ("book", 5), ("cut", 2, 4, 1)],
    [("book", 0), ("book", 1), ("cut", 0, 1, 2), ("book", 4), ("book", 5), ("cut", 2, 3, 1)],
    [("book", 0), ("book", 1), ("cut", 0, 1, 2), ("book", 4), ("cut", 2, 3, 1)],
    [("book", 0), ("book", 1), ("book", 6), ("book", 4), ("cut", 2, 3, 1)],
    [("book", 6), ("book", 4), ("cut", 0, 1, 1)],
]


def copied(chain):
    return [list(ladder) for ladder in chain]


class BeingAChain(unittest.TestCase):
    def chain(self, right, thing, book=CHAIN_OF_FIVE_BOOK, ladder=CHAIN_OF_FIVE[0]):
        thing = [list(part) if type(part) is list else part for part in thing]
        self.assertIs(is_chain_plainly(book, ladder, thing), right, thing)
        self.assertIs(asked_twice(self, is_chain, book, list(ladder), thing), right, thing)

    def test_a_chain(self):
        self.chain(True, CHAIN_OF_FIVE)

    def test_cut_short(self):
        for many in range(1, 6):
            self.chain(True, CHAIN_OF_FIVE[:many])
        self.chain(False, [])

    def test_one_left_out(self):
        for at in range(1, 5):
            self.chain(True, CHAIN_OF_FIVE[:at] + CHAIN_OF_FIVE[at + 1:])
        self.chain(True, [CHAIN_OF_FIVE[0], CHAIN_OF_FIVE[4]])

    def test_without_the_first(self):
        for at in range(1, 5):
            self.chain(False, CHAIN_OF_FIVE[at:])
            self.chain(True, CHAIN_OF_FIVE[at:], ladder=CHAIN_OF_FIVE[at])
            self.chain(False, CHAIN_OF_FIVE, ladder=CHAIN_OF_FIVE[at])
        # Another ladder that tells the same.
        other = [("book", 1), ("book", 0), ("cut", 1, 0, 2)] + CHAIN_OF_FIVE[0][3:]
        self.chain(False, [other] + CHAIN_OF_FIVE[1:])
        self.chain(True, [other] + CHAIN_OF_FIVE[1:], ladder=other)

    def test_one_twice(self):
        for at in range(5):
            self.chain(False, CHAIN_OF_FIVE[:at + 1] + CHAIN_OF_FIVE[at:])
        self.chain(False, CHAIN_OF_FIVE + CHAIN_OF_FIVE[:1])
        self.chain(False, [CHAIN_OF_FIVE[0]] * 2)

    def test_exchanged_and_turned_about(self):
        for order in itertools.permutations(range(5)):
            self.chain(order == (0, 1, 2, 3, 4), [CHAIN_OF_FIVE[at] for at in order])
        self.chain(False, CHAIN_OF_FIVE[::-1])
        self.chain(False, CHAIN_OF_FIVE[::-1], ladder=CHAIN_OF_FIVE[4])

    def test_a_last_claim_that_is_not_as_wide(self):
        for at in range(1, 5):
            self.chain(False, CHAIN_OF_FIVE[:at] + [[("book", 5)]])
            self.chain(False, CHAIN_OF_FIVE[:at] + [[("book", 4)]])
        # As wide as the first one's, but not as wide as the one's right ahead of it.
        book = ((1, 2, 3), (-3, 1), (2,), (1, 2))
        first = [("book", 0), ("book", 1), ("cut", 0, 1, 3), ("book", 3), ("book", 2), ("book", 3)]
        self.chain(True, [first, [("book", 3)]], book, first)
        self.chain(True, [first, [("book", 0), ("book", 2)], [("book", 2)]], book, first)
        self.chain(False, [first, [("book", 0), ("book", 2)], [("book", 3)]], book, first)
        # Of one that is wider still the next one may be none the less.
        self.chain(False, [first, [("book", 2), ("book", 0)]], book, first)

    def test_as_many_rows_and_fewer_cuts(self):
        self.assertEqual(len(CHAIN_OF_FIVE[2]), len(CHAIN_OF_FIVE[3]))
        self.chain(True, CHAIN_OF_FIVE[2:4], ladder=CHAIN_OF_FIVE[2])
        self.chain(False, CHAIN_OF_FIVE[3:1:-1], ladder=CHAIN_OF_FIVE[3])

    def test_fewer_rows_but_more_cuts(self):
        book = ((1, 2), (-2, 1), (1,))
        one = [("book", 0), ("book", 0), ("book", 0), ("book", 2)]
        other = [("book", 0), ("book", 1), ("cut", 0, 1, 2)]
        self.chain(False, [one, other], book, one)
        self.chain(True, [one, one[1:]], book, one)
        self.chain(True, [one, one[3:]], book, one)
        one = [("book", 0), ("book", 1), ("cut", 0, 1, 2), ("cut", 0, 1, 2)]
        self.chain(True, [one, other], book, one)
        # As many cuts and fewer rows.
        one = [("book", 0), ("book", 0), ("book", 1), ("cut", 0, 2, 2)]
        self.chain(True, [one, other], book, one)
        # As many of both.
        self.chain(False, [one, [("book", 0), ("book", 1), ("book", 1), ("cut", 0, 1, 2)]], book, one)

    def test_more_rows_and_fewer_cuts(self):
        book = ((1, 2), (-2, 1), (1,))
        one = [("book", 0), ("book", 1), ("cut", 0, 1, 2)]
        self.chain(False, [one, [("book", 2)] * 4], book, one)
        self.chain(True, [one, [("book", 2)] * 3], book, one)

    def test_things_that_are_no_ladders(self):
        things = odd_things() + [tuple(CHAIN_OF_FIVE[1]), CHAIN_OF_FIVE[1] + [None], CHAIN_OF_FIVE, [[]]]
        for thing in things:
            self.chain(False, [thing])
            self.chain(False, [thing] + copied(CHAIN_OF_FIVE))
            self.chain(False, copied(CHAIN_OF_FIVE) + [thing])
            self.chain(False, copied(CHAIN_OF_FIVE[:2]) + [thing] + copied(CHAIN_OF_FIVE[2:]))
            self.chain(False, copied(CHAIN_OF_FIVE[:1]) + [thing])

    def test_rows_that_are_none(self):
        for number in (0, 1, 2, 5):
            for row in wrong_rows(BOOK, number):
                # Rows with lists in them are told apart by copies of their own.
                self.assertIs(is_chain(BOOK, LADDER, [LADDER, LADDER[:number] + [row]]), False)
                self.assertIs(is_chain(BOOK, LADDER, [LADDER[:number] + [row]]), False)

    def test_a_truth_in_the_place_of_a_number(self):
        book = ((1, 2), (-2, 1), (1,))
        ladder = [("book", 0), ("book", 1), ("cut", 0, 1, 2)]
        self.chain(True, [ladder], book, ladder)
        self.chain(False, [[("book", False), ("book", 1), ("cut", 0, 1, 2)]], book, ladder)
        self.chain(False, [[("book", 0), ("book", True), ("cut", 0, 1, 2)]], book, ladder)
        self.chain(False, [[("book", 0), ("book", 1), ("cut", False, 1, 2)]], book, ladder)
        self.chain(False, [[("book", 0), ("book", 1), ("cut", 0, True, 2)]], book, ladder)
        self.chain(True, [ladder, [("book", 2)]], book, ladder)
        self.chain(True, [ladder, [("book", 1), ("book", 2)]], book, ladder)
        self.chain(False, [ladder, [("book", True), ("book", 2)]], book, ladder)
        self.chain(False, [[("book", 0), ("book", 1), ("cut", 0, 1, True)]], ((1,), (-1,)), [
            ("book", 0), ("book", 1), ("cut", 0, 1, 1),
        ])

    def test_two_hundred_rows(self):
        long = [("book", 2)] * 200
        chain = [[("book", 2)] * many for many in range(200, 0, -1)]
        self.chain(True, chain, CHAIN_BOOK, long)
        self.chain(True, chain[::7], CHAIN_BOOK, long)
        self.chain(False, chain[:100] + chain[99:], CHAIN_BOOK, long)
        self.chain(False, [long + [("book", 2)]] + chain, CHAIN_BOOK, long)
        ladder = chain_ladder(200)
        self.chain(True, [ladder, chain_ladder(198), chain_ladder(4)], CHAIN_BOOK, ladder)
        self.chain(False, [ladder, chain_ladder(199)], CHAIN_BOOK, ladder)

    def test_by_chance(self):
        seen = {True: 0, False: 0}
        for number, chance in enumerate(chances(120)):
            book = some_short_book(chance, number)
            ladder = some_ladder(chance, book, chance.randint(2, 30))
            parts = [trimmed(book, ladder), told_once(book, ladder), made_bare(book, ladder), ladder]
            parts.extend(some_ladder(chance, book, chance.randint(1, 12)) for turn in range(4))
            for turn in range(6):
                thing = [ladder] + [chance.choice(parts) for pick in range(chance.randint(1, 3))]
                right = is_chain_plainly(book, ladder, thing)
                seen[right] += 1
                self.chain(right, thing, book, ladder)
        self.assertGreater(seen[True], 60)
        self.assertGreater(seen[False], 60)


class Shortening(unittest.TestCase):
    def told(self, book, ladder):
        chain = asked_twice(self, shortened, book, ladder)
        self.assertIs(type(chain), list)
        self.assertTrue(is_chain_plainly(book, ladder, chain), (book, ladder, chain))
        self.assertTrue(is_bare_plainly(book, chain[-1]), (book, ladder, chain))
        self.assertIs(is_chain(book, ladder, chain), True)
        for part in chain:
            look_at_shorter(self, book, ladder, part)
        return chain

    def test_a_bare_ladder_alone(self):
        for ladder in ([("book", 6)], CHAIN_OF_FIVE[4]):
            self.assertEqual(self.told(CHAIN_OF_FIVE_BOOK, ladder), [ladder])
        book = ((1, 2), (-2, 1))
        self.assertEqual(len(self.told(book, [("book", 0), ("book", 1), ("cut", 0, 1, 2)])), 1)

    def test_ladders_that_are_not_bare(self):
        for ladder in CHAIN_OF_FIVE[:4]:
            self.assertGreater(len(self.told(CHAIN_OF_FIVE_BOOK, ladder)), 1)
        self.told(BOOK, LADDER)
        self.told(BOOK, LADDER[:3])

    def test_only_a_cut_is_spared(self):
        # As many rows, but a claim of the book in the place of a cut.
        book = ((1, 2), (-1, 2), (2,), (-2, 3))
        ladder = [("book", 2), ("book", 3), ("cut", 0, 1, 2)]
        self.assertEqual(len(self.told(book, ladder)), 1)
        self.told(book, [("book", 0), ("book", 1), ("cut", 0, 1, 1)])

    def test_two_hundred_rows(self):
        self.told(BOOK, [("book", 0)] * 200)
        self.told(CHAIN_BOOK, chain_ladder(200))
        self.told(ROUND, doubling_ladder(200))
        for chance in chances(3):
            self.told(ROUND, some_round_ladder(chance, 200))

    def test_by_chance(self):
        for book, ladder in [*some_ladders(), *some_dense_ladders()]:
            self.told(book, ladder)


class Refusing(unittest.TestCase):
    def test_lists_that_are_no_ladder_go_ahead_of_all(self):
        for thing, at in wrong_lists():
            for other in ([], [LADDER], [thing], [None]):
                with self.assertRaises(NoLadder) as caught:
                    is_chain(BOOK, thing, other)
                self.assertEqual(caught.exception.at, at)
            with self.assertRaises(NoLadder) as caught:
                shortened(BOOK, thing)
            self.assertEqual(caught.exception.at, at)


if __name__ == "__main__":
    unittest.main()
