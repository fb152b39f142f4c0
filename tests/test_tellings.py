"""Points 18 and 19: tellings by a book, made whole and spared."""

import functools
import itertools
import random
import unittest

from sparecut.errors import NoTelling
from sparecut.tellings import made_whole, spared, wrong_at
from tests.helper import (
    asked_twice, chances, claims_plainly, every_claim, fault_plainly, follows_plainly, some_book, some_claim,
    wide_plainly,
)

# () follows from these, but no claim of one say is among them: by force alone nothing is held.
FOUR = ((1, 2), (-1, 2), (-2, 1), (-2, -1))
# The same with each claim said twice over, once with 3 and once with -3.
EIGHT = tuple(tuple(sorted(claim + (say,))) for claim in FOUR for say in (-3, 3))
EIGHT_TELLING = [(1, 2), (1,), (-1, 2), ()]


def follows_by_force_plainly(claims, claim):
    held = {-say for say in claim}
    while True:
        left = [[say for say in one if -say not in held] for one in claims]
        if [] in left:
            return True
        new = [says[0] for says in left if len(says) == 1 and says[0] not in held]
        if not new:
            return False
        held.add(new[-1])


def wrong_at_plainly(book, telling):
    for number, claim in enumerate(telling):
        if not follows_by_force_plainly(book + tuple(telling[:number]), claim):
            return number
    return None


def parts_plainly(telling):
    """The parts with one claim, but for the last one, left out."""
    return [telling[:number] + telling[number + 1:] for number in range(len(telling) - 1)]


def is_part_plainly(part, telling):
    """Whether it is a part in order."""
    rest = iter(telling)
    return all(claim in rest for claim in part)


def some_telling(chance, book, things, most, many=12):
    """A telling by the book of at most so many claims by chance; [] where none was met with."""
    telling = []
    for turn in range(120):
        claim = some_claim(chance, things, most)
        known = book + tuple(telling)
        if len(telling) < many and follows_by_force_plainly(known, claim):
            # A claim as wide as one that is known tells something; others hardly ever do.
            if chance.random() < 0.2 or not any(wide_plainly(one, claim) for one in known):
                telling.append(claim)
    return telling


def some_hard_telling(chance, book, things):
    """A telling by a book of wide claims, each of whose claims has fewer says than those: few of them follow at once."""
    telling = []
    shorter = [claim for claim in every_claim(things) if len(claim) < 3]
    while len(telling) < 12 and () not in telling:
        known = book + tuple(telling)
        chance.shuffle(shorter)
        # The widest that follow go first, but not always.
        order = sorted(shorter, key=len) if chance.random() < 0.3 else shorter
        found = [one for one in order if one not in known and follows_by_force_plainly(known, one)]
        if not found:
            break
        telling.append(found[0])
    # The last one is to need others of the telling.
    while len(telling) > 1 and follows_by_force_plainly(book, telling[-1]):
        telling.pop()
    return telling


@functools.cache
def some_tellings(many):
    """Pairs of a book and a telling."""
    told = []
    for number, chance in enumerate(chances(many)):
        things, most = (2, 3, 4, 5, 8)[number % 5], (2, 3, 4)[number % 3]
        if number % 2:
            book = tuple(claim or (1,) for claim in some_book(chance, things, most, chance.randint(1, 16)))
            telling = some_telling(chance, book, things, most)
        else:
            things = (3, 4, 5)[number % 3]
            book = tuple(chance.choice([one for one in every_claim(things) if len(one) == 3]) for turn in range(16))
            telling = some_hard_telling(chance, book, things)
        if telling:
            told.append((book, telling))
    return tuple(told)


def spoilt(chance, telling, things=8):
    """The telling with a claim left out, exchanged, put in, told twice, or in another order."""
    told = list(telling)
    at = chance.randrange(len(told))
    way = chance.randrange(5)
    if way == 0 and len(told) > 1:
        del told[at]
    elif way == 1:
        told[at] = some_claim(chance, things, 3)
    elif way == 2 and len(told) < 12:
        told.insert(at, some_claim(chance, things, 3))
    elif way == 3 and len(told) < 12:
        told.append(told[at])
    else:
        chance.shuffle(told)
    return told


class Asking(unittest.TestCase):
    """Looks at what is told of a list of claims."""

    def wrong(self, book, telling):
        told = asked_twice(self, wrong_at, book, telling)
        self.assertEqual(told, wrong_at_plainly(book, telling), (book, telling))
        self.assertIsNot(type(told), bool)
        return told

    def whole(self, book, telling):
        told = asked_twice(self, made_whole, book, telling)
        self.assertIs(type(told), tuple)
        ladder, numbers = told
        self.assertIs(type(ladder), list)
        self.assertIs(type(numbers), list)
        self.assertIsNone(fault_plainly(book, ladder), ladder)
        self.assertEqual(len(numbers), len(telling))
        claims = claims_plainly(book, ladder)
        for number, claim in zip(numbers, telling):
            self.assertIs(type(number), int)
            self.assertIn(number, range(len(ladder)))
            self.assertTrue(wide_plainly(claims[number], claim), (book, telling, told))
        self.assertEqual(numbers[-1], len(ladder) - 1)
        return told

    def less(self, book, telling):
        told = asked_twice(self, spared, book, telling)
        self.assertIs(type(told), list)
        self.assertEqual(told[-1], telling[-1])
        self.assertTrue(is_part_plainly(told[:-1], telling[:-1]), (telling, told))
        self.assertIsNone(wrong_at_plainly(book, told), (book, telling, told))
        for part in parts_plainly(told):
            self.assertIsNotNone(wrong_at_plainly(book, part), (book, telling, told))
        return told

    def is_telling(self, book, telling):
        self.assertIsNone(self.wrong(book, telling))
        self.whole(book, telling)
        return self.less(book, telling)

    def is_none(self, book, telling, at):
        self.assertEqual(self.wrong(book, telling), at)
        kept = list(telling)
        for ask in (made_whole, spared):
            with self.assertRaises(NoTelling):
                ask(book, telling)
            self.assertEqual(telling, kept)


class Tellings(Asking):
    def test_one_claim(self):
        self.is_telling(FOUR, [(1,)])
        self.is_telling(FOUR, [(-2,)])
        self.is_telling(((1, 2),), [(1, 2)])
        self.is_telling(((1, 2),), [(-5, 1, 2)])
        self.is_telling(((),), [()])
        self.is_telling(((),), [(4,)])
        self.is_telling(((1,), (-1,)), [()])
        self.is_none(((1, 2),), [(1,)], 0)
        self.is_none(((1, 2),), [(1, 3)], 0)
        self.is_none(((1, 2),), [(-1, 2)], 0)
        self.is_none(((1, 2),), [()], 0)

    def test_what_follows_but_not_by_force(self):
        self.assertTrue(follows_plainly(FOUR, ()))
        self.is_none(FOUR, [()], 0)
        self.assertTrue(follows_plainly(EIGHT, (1,)))
        self.is_none(EIGHT, [(1,)], 0)
        self.is_none(EIGHT, [(1, 2), ()], 1)
        self.is_none(EIGHT, [(1, 2), (-1, 2), ()], 2)

    def test_what_follows_by_force_once_another_claim_is_told(self):
        self.is_telling(FOUR, [(1,), ()])
        self.is_telling(EIGHT, EIGHT_TELLING)
        self.is_telling(EIGHT, [(1, 2), (1,)])

    def test_a_claim_left_out(self):
        self.is_none(FOUR, [()], 0)
        self.is_none(EIGHT, [(1,), (-1, 2), ()], 0)
        self.is_none(EIGHT, [(1, 2), (-1, 2), ()], 2)
        self.is_none(EIGHT, [(-1, 2), ()], 1)

    def test_a_claim_exchanged(self):
        for at in range(len(EIGHT_TELLING)):
            for claim in ((3,), (4,), (1, 2, 4), (-1, 3)):
                self.wrong(EIGHT, EIGHT_TELLING[:at] + [claim] + EIGHT_TELLING[at + 1:])
        self.is_none(EIGHT, [(4,), (1,), (-1, 2), ()], 0)
        self.is_none(EIGHT, [(1, 2), (1,), (-1, 2), (4,), (-4,)][:2] + [(4,)], 2)

    def test_a_claim_told_twice(self):
        self.is_telling(FOUR, [(1,), (1,), ()])
        self.assertEqual(self.less(FOUR, [(1,), (1,), ()]), [(1,), ()])
        self.assertEqual(self.less(FOUR, [(1,)] * 12), [(1,)])
        self.assertEqual(self.less(FOUR, [(1,), (), (1,)]), [(1,)])
        self.assertEqual(self.less(((),), [()] * 12), [()])
        self.is_none(EIGHT, [(1,), (1,)], 0)

    def test_in_another_order(self):
        self.is_none(FOUR, [(), (1,)], 0)
        for order in itertools.permutations(EIGHT_TELLING):
            self.wrong(EIGHT, list(order))
        self.is_none(EIGHT, [(1,), (1, 2), (-1, 2), ()], 0)

    def test_the_first_claim_that_does_not_follow(self):
        self.is_none(FOUR[:2], [(2,), (3,), (4,)], 1)
        self.is_none(FOUR[:2], [(2,), (2, 3), (-2,), ()], 2)
        self.is_none(FOUR, [(3,), (4,)], 0)
        # Behind a claim that doesn't follow all may follow by it.
        self.is_none(((1, 2),), [(-1,), (2,), (1, 2)], 0)

    def test_behind_no_says_all_follows(self):
        self.is_telling(FOUR, [(1,), (), (5,), (-5,), (6, 7)])
        self.assertEqual(self.less(FOUR, [(1,), (), (5,), (-5,), (6, 7)])[-1], (6, 7))

    def test_twelve_claims(self):
        book = tuple(tuple(sorted((-thing, thing + 1))) for thing in range(1, 8)) + ((1, 2),)
        telling = [(thing,) for thing in range(2, 9)] + [(-1, 8), (-1, 7), (-2, 8), (-3, 8), (8,)]
        self.assertEqual(len(telling), 12)
        self.assertEqual(self.is_telling(book, telling), [(8,)])
        self.is_none(book, telling[:11] + [(1,)], 11)
        self.is_none(book, telling[:5] + [(-1,)] + telling[6:], 5)

    def test_no_claims_and_thirteen_are_no_telling(self):
        for telling in ([], [(1,)] * 13):
            wrong_at(FOUR, telling)
            for ask in (made_whole, spared):
                with self.assertRaises(NoTelling):
                    ask(FOUR, telling)

    def test_made_whole_ends_with_the_last_claim(self):
        # The last one follows by a row that stands ahead of others already.
        self.whole(((1, 2), (3,), (-1, 2)), [(2,), (3,)])
        self.whole(((1, 2), (3,), (-1, 2)), [(2,), (2, 3)])
        self.whole(FOUR, [(1,), (2,), (1,)])
        self.whole(FOUR, [(1,), (2,), (1, 2)])
        self.whole(FOUR, [(1, 2), (-1, 2)])
        self.whole(((1,), (2,), (3,)), [(1,)])

    def test_spared_of_what_only_a_claim_left_out_needs(self):
        book = EIGHT + ((4, 5), (-5, 4))
        self.assertEqual(self.less(book, [(1, 2), (1,), (4,)]), [(4,)])
        self.assertEqual(self.less(book, EIGHT_TELLING + [(4,)])[-1], (4,))
        self.assertEqual(self.less(book, [(1, 2), (1,), (-5, 4), (4,)]), [(4,)])
        self.assertEqual(self.less(EIGHT, [(1, 2), (1,)]), [(1, 2), (1,)])

    def test_spared_leaves_out_what_can_be(self):
        self.assertEqual(self.less(FOUR, [(2,), (1,)]), [(1,)])
        self.assertIn(self.less(FOUR, [(2,), (1,), ()]), ([(2,), ()], [(1,), ()]))
        self.assertLess(len(self.less(EIGHT, [(1, 2), (-1, 2), (1,), (2,), (-2, 1), ()])), 6)

    def test_by_chance(self):
        long, shorter, whole = 0, 0, 0
        for book, telling in some_tellings(260):
            told = self.is_telling(book, telling)
            long += len(telling) == 12
            shorter += 1 < len(told) < len(telling)
            whole += 1 < len(told) == len(telling)
        self.assertGreater(long, 20)
        self.assertGreater(shorter, 50)
        self.assertGreater(whole, 5)

    def test_spoilt_by_chance(self):
        right, wrong = 0, [0] * 12
        for number, (book, telling) in enumerate(some_tellings(260)):
            chance = random.Random(f"spoilt {number}")
            for turn in range(6):
                other = spoilt(chance, telling)
                at = wrong_at_plainly(book, other)
                if at is None:
                    right += 1
                    self.is_telling(book, other)
                else:
                    wrong[at] += 1
                    self.is_none(book, other, at)
        self.assertGreater(right, 100)
        self.assertGreater(wrong[0], 20)
        self.assertGreater(sum(wrong[1:]), 50)
        self.assertGreater(sum(wrong[8:]), 5)


if __name__ == "__main__":
    unittest.main()
