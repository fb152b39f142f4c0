"""Point 6: cuts of two claims, NoCut."""

import itertools
import unittest

from sparecut.cuts import cut
from sparecut.errors import NoCut
from tests.helper import FORTY_FIGURES, chances, cut_plainly, some_claim


class Cutting(unittest.TestCase):
    def refused(self, one, other, k):
        with self.assertRaises(NoCut) as caught:
            cut(one, other, k)
        self.assertIs(type(caught.exception), NoCut)

    def test_ordinary_cuts(self):
        self.assertEqual(cut((1, 2), (-1, 3), 1), (2, 3))
        self.assertEqual(cut((-3, 2), (-4, -2, 1), 2), (-4, -3, 1))
        self.assertEqual(cut((1, 5), (-5,), 5), (1,))
        self.assertIs(type(cut((1, 2), (-1, 3), 1)), tuple)

    def test_what_both_say_is_said_once(self):
        self.assertEqual(cut((1, 2), (-1, 2), 1), (2,))
        self.assertEqual(cut((-3, 1, 2), (-3, -1, 2), 1), (-3, 2))

    def test_what_comes_is_rising(self):
        self.assertEqual(cut((1, 8), (-1, 2), 1), (2, 8))
        self.assertEqual(cut((1, 2), (-8, -1), 1), (-8, 2))

    def test_nothing_is_left_over(self):
        for k in range(1, 9):
            self.assertEqual(cut((k,), (-k,), k), ())

    def test_all_eight_things(self):
        self.assertEqual(cut((1, 2, 3, 4, 5, 6, 7, 8), (-8, 1, 2, 3, 4, 5, 6, 7), 8), (1, 2, 3, 4, 5, 6, 7))
        self.assertEqual(cut((-8, -7, -6, -5, 4), (-8, -4, 1, 2, 3), 4), (-8, -7, -6, -5, 1, 2, 3))

    def test_two_opposite_says_left_over(self):
        self.refused((1, 2), (-2, -1), 1)
        self.refused((1, 2), (-2, -1), 2)
        self.refused((-3, 1), (-1, 3), 1)
        self.refused((1, 2, 8), (-8, -1, 3), 1)

    def test_the_two_claims_turned_about(self):
        self.refused((-1, 3), (1, 2), 1)
        self.refused((-1,), (1,), 1)
        self.refused((-1,), (1,), -1)

    def test_a_claim_that_has_it_not(self):
        self.refused((1, 2), (3,), 1)
        self.refused((3,), (-1, 2), 1)
        self.refused((1, 2), (1, 3), 1)
        self.refused((-1, 2), (-1, 3), 1)
        self.refused((2,), (3,), 1)
        self.refused((), (), 1)
        self.refused((1,), (), 1)
        self.refused((), (-1,), 1)

    def test_any_other_whole_number(self):
        for number in (0, 9, -9, 10, -1, -2, -8, 3, 8, 16, FORTY_FIGURES, -FORTY_FIGURES):
            self.refused((1, 2), (-1, 2), number)
            self.refused((-1, 2), (1, 2), number)
        for number in (0, 9, -9, 10):
            # The numbers stand in both, and yet there is no cut by them.
            self.refused((number,), (-number,), number)

    def test_truths_are_no_whole_numbers(self):
        self.refused((1, 2), (-1, 2), True)
        self.refused((1, 2), (-1, 2), False)

    def test_each_pair_of_claims_of_two_things(self):
        claims = [()] + [(say,) for say in (-2, -1, 1, 2)] + [(-2, -1), (-2, 1), (-1, 2), (1, 2)]
        for one, other, k in itertools.product(claims, claims, range(-3, 4)):
            right = cut_plainly(one, other, k)
            if right is None:
                self.refused(one, other, k)
            else:
                self.assertEqual(cut(one, other, k), right)

    def test_by_chance(self):
        cuts = refusals = 0
        for chance in chances(400):
            # Both are made to meet at one thing at least, else few of them could be cut.
            thing = chance.randint(1, 8)
            one = tuple(sorted({say for say in some_claim(chance, 8, 4) if abs(say) != thing} | {thing}))
            other = tuple(sorted({say for say in some_claim(chance, 8, 4) if abs(say) != thing} | {-thing}))
            for k in range(1, 9):
                right = cut_plainly(one, other, k)
                if right is None:
                    refusals += k == thing
                    self.refused(one, other, k)
                else:
                    cuts += 1
                    self.assertEqual(cut(one, other, k), right)
        self.assertGreater(cuts, 100)
        self.assertGreater(refusals, 20)

    def test_claims_somewhat_beyond_the_limit(self):
        self.assertEqual(cut((1, 9), (-10, -1), 1), (-10, 9))


if __name__ == "__main__":
    unittest.main()
