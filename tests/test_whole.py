"""Points 1 to 3 over the whole program: what is told shorter, what is refused ahead of all, what least numbers say."""

import unittest

from sparecut.backing import pieces_of, rows_of, tree_of
from sparecut.bare import is_bare, made_bare
from sparecut.bearing import bears_cuts, bears_heights
from sparecut.chains import is_chain, shortened
from sparecut.cores import core, shows_core
from sparecut.errors import NoLadder, TooGreat
from sparecut.fewest import fewest, floor_of, shows_needed
from sparecut.instead import put_instead
from sparecut.ladders import claims_of, heights, how_many_cuts
from sparecut.late import is_put_off, put_off
from sparecut.least import least_cuts, least_heights, least_tree, to_spare
from sparecut.once import told_once
from sparecut.regular import made_regular
from sparecut.settings import follows
from sparecut.standing import needed, stands_on, trimmed
from sparecut.tellings import made_whole, spared, wrong_at
from sparecut.texts import read_book, read_ladder, show_book, show_ladder
from tests.helper import (
    BOOK, LADDER, asked_twice, book_holds_plainly, chances, claims_plainly, cuts_of_plainly, fault_plainly,
    holds_plainly, look_at_shorter, pieces_plainly, some_dense_ladders, some_few_trees, some_ladder, some_ladders,
    some_short_book, some_wide_claim, tree_claim_plainly, wide_plainly, within_plainly, wrong_lists,
)


def put_off_alone(book, ladder):
    return put_off(book, ladder)[0]


def last_shortened(book, ladder):
    return shortened(book, ladder)[-1]


def back_and_rows(book, ladder):
    """The rows of the ladder put back, or the ladder itself where its tree is too great."""
    try:
        return rows_of(tree_of(book, ladder))
    except TooGreat:
        return list(ladder)


SHORTENINGS = (trimmed, told_once, made_bare, put_off_alone, last_shortened, back_and_rows)


def all_instead(book, ladder):
    """Some pairs of numbers of rows of which the second may stand instead of the first."""
    claims = claims_plainly(book, ladder)
    return [
        (old, other) for old in range(len(ladder)) for other in range(old) if wide_plainly(claims[other], claims[old])
    ]


class Shorter(unittest.TestCase):
    def test_each_of_all_ladders(self):
        for book, ladder in [*some_ladders(), *some_dense_ladders()[::3]]:
            for shorten in SHORTENINGS:
                look_at_shorter(self, book, ladder, asked_twice(self, shorten, book, ladder))

    def test_one_behind_the_other_in_any_order(self):
        for number, chance in enumerate(chances(120)):
            book = some_short_book(chance, number)
            first = ladder = some_ladder(chance, book, chance.choice((5, 20, 60, 200)))
            for turn in range(5):
                pairs = all_instead(book, ladder)
                if pairs and chance.random() < 0.4:
                    shorter = put_instead(book, ladder, *chance.choice(pairs))[0]
                else:
                    shorter = chance.choice(SHORTENINGS)(book, ladder)
                look_at_shorter(self, book, ladder, shorter)
                look_at_shorter(self, book, first, shorter)
                ladder = shorter

    def test_what_is_bare_stays_so_whatever_is_done(self):
        for book, ladder in some_ladders():
            bare = made_bare(book, ladder)
            self.assertEqual(trimmed(book, bare), bare)
            self.assertEqual(told_once(book, bare), bare)
            self.assertEqual(shortened(book, bare), [bare])
            self.assertIs(is_bare(book, bare), True)

    def test_trees_told_shorter(self):
        for book, tree in some_few_trees():
            regular = made_regular(book, tree)
            self.assertTrue(wide_plainly(tree_claim_plainly(book, regular), tree_claim_plainly(book, tree)))
            self.assertLessEqual(len(pieces_plainly(regular)), len(pieces_plainly(tree)))
            # What a regular tree spares is never more than can be spared at most.
            self.assertLessEqual(cuts_of_plainly(tree) - cuts_of_plainly(regular), to_spare(book, tree))


class LeastNumbers(unittest.TestCase):
    def test_no_tree_has_fewer_cuts_or_less_height_than_is_told_of_its_claim(self):
        for book, tree in some_few_trees():
            claim = tree_claim_plainly(book, tree)
            cuts, least = least_cuts(book), least_heights(book)
            self.assertLessEqual(cuts[claim], cuts_of_plainly(tree))
            self.assertLessEqual(least[claim], within_plainly(tree) - 1)
            self.assertIs(bears_cuts(book, cuts), True)
            self.assertIs(bears_heights(book, least), True)
            self.assertEqual(cuts_of_plainly(least_tree(book, claim)), cuts[claim])

    def test_no_ladder_has_fewer_rows_than_its_floor(self):
        for number, chance in enumerate(chances(80)):
            book = tuple(some_wide_claim(chance, (3, 4, 5)[number % 3], 1) for turn in range(10))
            ladder = some_ladder(chance, book, chance.choice((3, 10, 40)))
            claim = claims_plainly(book, ladder)[-1]
            floor = floor_of(book, claim)
            for shorten in SHORTENINGS:
                # One that tells a wider claim is a ladder of one as wide, too.
                self.assertLessEqual(floor, len(shorten(book, ladder)))
            word, numbers, table = fewest(book, claim)
            self.assertIs(shows_needed(book, claim, (floor + 1) // 2, table), True)
            self.assertLessEqual(len(numbers), len(core(book, claim)[1]))

    def test_ladders_of_trees_of_the_fewest_cuts(self):
        for book, tree in some_few_trees()[::5]:
            if len(book) <= 10:
                claim = tree_claim_plainly(book, tree)
                self.assertLessEqual(floor_of(book, claim), len(rows_of(least_tree(book, claim))))


class ShownToFollow(unittest.TestCase):
    def test_what_is_told_is_shown_and_what_is_not_is_refuted(self):
        for number, chance in enumerate(chances(60)):
            book = tuple(some_wide_claim(chance, (3, 4)[number % 2], 1) for turn in range(9))
            for claim in ((), (1,), (-2,), (-3, 1)):
                told = [follows(book, claim), core(book, claim), fewest(book, claim)]
                if told[0] == ("follows",):
                    self.assertEqual([part[0] for part in told], ["follows", "core", "fewest"])
                    self.assertIs(shows_core(book, claim, told[1][1], told[1][2]), True)
                    continue
                for part in told:
                    self.assertEqual(part[0], "not")
                    self.assertTrue(book_holds_plainly(book, part[1]) and not holds_plainly(claim, part[1]))

    def test_the_claims_of_a_ladder_are_made_whole_as_a_telling(self):
        for number, chance in enumerate(chances(60)):
            book = tuple(some_wide_claim(chance, (3, 4, 5)[number % 3], 1) for turn in range(12))
            telling = claims_plainly(book, some_ladder(chance, book, 12))
            # A cut follows by force from its two rows.
            self.assertIsNone(wrong_at(book, telling))
            ladder, numbers = made_whole(book, telling)
            self.assertIsNone(fault_plainly(book, ladder))
            self.assertTrue(wide_plainly(claims_plainly(book, ladder)[-1], telling[-1]))
            self.assertIsNone(wrong_at(book, spared(book, telling)))


class RefusedAheadOfAll(unittest.TestCase):
    def test_everything_that_takes_a_ladder(self):
        asks = [
            claims_of, heights, how_many_cuts, stands_on, needed, trimmed, told_once, is_bare, made_bare, pieces_of, tree_of,
            put_off, shortened,
            lambda book, ladder: put_instead(book, ladder, 99, -1),
            lambda book, ladder: is_put_off(book, ladder, -5),
            lambda book, ladder: is_chain(book, ladder, []),
        ]
        for thing, at in wrong_lists():
            for ask in asks:
                with self.assertRaises(NoLadder) as caught:
                    ask(BOOK, thing)
                self.assertEqual(caught.exception.at, at)
        for ask in asks[:-3]:
            ask(BOOK, LADDER)


class ReadFromWhatIsShown(unittest.TestCase):
    def test_books_and_ladders_told_shorter(self):
        for book, ladder in some_ladders():
            self.assertEqual(read_book(show_book(book)), book)
            for shorten in SHORTENINGS[:4]:
                told = shorten(book, ladder)
                self.assertEqual(read_ladder(show_ladder(told)), told)


if __name__ == "__main__":
    unittest.main()
