"""Point 5: settings, where a claim holds, what follows from a book."""

import unittest

from sparecut.settings import failing, follows, holds
from tests.helper import (
    ALL_SAYS, SETTINGS, asked_twice, book_holds_plainly, chances, follows_plainly, holds_plainly, is_setting_plainly,
    some_book, some_claim,
)

NONE_SO = (False,) * 8
ALL_SO = (True,) * 8
FULL = (-8, -6, -4, -2, 1, 3, 5, 7)


class Holding(unittest.TestCase):
    def test_no_says_hold_never(self):
        for setting in SETTINGS:
            self.assertIs(holds((), setting), False)

    def test_single_says_look_at_their_own_place(self):
        for setting in SETTINGS:
            for thing in range(1, 9):
                self.assertIs(holds((thing,), setting), setting[thing - 1])
                self.assertIs(holds((-thing,), setting), not setting[thing - 1])

    def test_one_say_that_holds_is_enough(self):
        setting = (True, False, False, False, False, False, False, True)
        self.assertIs(holds((1, 2), setting), True)
        self.assertIs(holds((2, 3), setting), False)
        self.assertIs(holds((-8, 2), setting), False)
        self.assertIs(holds((-8, -1, 2), setting), False)
        self.assertIs(holds((-8, -2), setting), True)
        self.assertIs(holds((2, 8), setting), True)

    def test_all_eight_things(self):
        failing_at = [setting for setting in SETTINGS if not holds(FULL, setting)]
        self.assertEqual(failing_at, [(False, True, False, True, False, True, False, True)])

    def test_by_chance(self):
        for chance in chances(60):
            claim = some_claim(chance)
            for setting in SETTINGS:
                self.assertIs(holds(claim, setting), holds_plainly(claim, setting))


class Failing(unittest.TestCase):
    def test_ordinary_books(self):
        book = ((1,), (-1,), (), (1, 2), (-2,), (1,))
        self.assertEqual(failing(book, NONE_SO), [0, 2, 3, 5])
        self.assertEqual(failing(book, ALL_SO), [1, 2, 4])

    def test_none_fails_and_all_fail(self):
        self.assertEqual(failing(((1,), (2, 3)), ALL_SO), [])
        self.assertEqual(failing(((1,), (2, 3)), NONE_SO), [0, 1])
        self.assertEqual(failing(((),) * 16, ALL_SO), list(range(16)))

    def test_by_chance(self):
        for chance in chances(60):
            book, setting = some_book(chance, most=3), chance.choice(SETTINGS)
            told = asked_twice(self, failing, book, setting)
            self.assertIs(type(told), list)
            self.assertEqual(told, [n for n in range(len(book)) if not holds_plainly(book[n], setting)])

    def test_each_list_is_a_new_one(self):
        told = asked_twice(self, failing, ((1,), (2,)), ALL_SO)
        self.assertEqual(told, [])
        told = asked_twice(self, failing, ((1,), (-2,)), ALL_SO)
        self.assertEqual(told, [1])


class Following(unittest.TestCase):
    def look_at(self, book, claim):
        """Each answer is looked at by itself: any setting that shows it is right."""
        told = follows(book, claim)
        self.assertIs(type(told), tuple)
        if told == ("follows",):
            self.assertTrue(follows_plainly(book, claim), (book, claim))
            return True
        self.assertEqual(len(told), 2)
        self.assertEqual(told[0], "not")
        self.assertTrue(is_setting_plainly(told[1]), told)
        self.assertTrue(book_holds_plainly(book, told[1]))
        self.assertFalse(holds_plainly(claim, told[1]))
        return False

    def test_a_claim_of_the_book_follows(self):
        self.assertEqual(follows(((1, 2),), (1, 2)), ("follows",))
        self.assertEqual(follows(((1, 2), (3,)), (3,)), ("follows",))

    def test_a_wider_claim_gives_the_others(self):
        self.assertTrue(self.look_at(((1,),), (1, 2)))
        self.assertFalse(self.look_at(((1, 2),), (1,)))

    def test_what_is_cut_follows(self):
        self.assertTrue(self.look_at(((1, 2), (-1, 3)), (2, 3)))
        self.assertFalse(self.look_at(((1, 2), (-1, 3)), (2,)))
        self.assertTrue(self.look_at(((1, 2), (-1, 2), (-2,)), ()))
        self.assertFalse(self.look_at(((1, 2), (-1, 2)), ()))

    def test_opposite_claims_give_all(self):
        for claim in ((), (5,), (-5,), FULL):
            self.assertTrue(self.look_at(((1,), (-1,)), claim))
            self.assertTrue(self.look_at(((),), claim))

    def test_one_setting_alone_shows_it(self):
        # All says are told but one: a single setting is left in which the book holds and the claim doesn't.
        for say in ALL_SAYS:
            others = tuple((thing,) for thing in range(1, 9) if thing != abs(say))
            self.assertFalse(self.look_at(others, (say,)))
            told = follows(others, (say,))[1]
            self.assertEqual(told, tuple(thing != abs(say) or say < 0 for thing in range(1, 9)))

    def test_each_setting_can_be_the_one_that_shows_it(self):
        for setting in SETTINGS:
            book = tuple((place + 1 if setting[place] else -place - 1,) for place in range(8))
            self.assertEqual(follows(book, ()), ("not", setting))

    def test_all_eight_things(self):
        self.assertFalse(self.look_at((FULL,), (1, 3, 5, 7)))
        self.assertTrue(self.look_at((FULL,), FULL))
        self.assertTrue(self.look_at(((1,),), FULL))

    def test_sixteen_claims(self):
        book = tuple(tuple(sorted((one, one + 1))) for one in range(1, 8)) + ((-8, 1),) * 9
        self.assertEqual(len(book), 16)
        self.assertTrue(self.look_at(book, (-8, 1)))
        self.assertFalse(self.look_at(book, (1,)))

    def test_by_chance(self):
        seen = []
        for chance in chances(150):
            things = chance.choice((2, 3, 4, 8))
            book = some_book(chance, things, chance.choice((2, 3)))
            seen.append(self.look_at(book, some_claim(chance, things, 3)))
        self.assertIn(True, seen)
        self.assertIn(False, seen)


class Beyond(unittest.TestCase):
    """Callers may go somewhat beyond the limits: no error comes of it."""

    def test_more_claims_than_a_book_has_or_none(self):
        claims = tuple((say,) for say in range(1, 9)) * 3
        self.assertEqual(failing(claims, ALL_SO), [])
        self.assertEqual(failing(claims, NONE_SO), list(range(24)))
        self.assertEqual(follows(claims, (1, 2)), ("follows",))
        self.assertEqual(failing((), ALL_SO), [])
        self.assertEqual(follows((), (1,))[0], "not")

    def test_things_beyond_the_eight(self):
        for say in (9, -9, 10, -12):
            for setting in (NONE_SO, ALL_SO):
                self.assertIn(holds((say,), setting), (True, False))
                self.assertIs(type(failing(((say,),), setting)), list)
            self.assertIn(follows(((say,),), (say,))[0], ("follows", "not"))
            self.assertIn(follows(((1,),), (say,))[0], ("follows", "not"))


if __name__ == "__main__":
    unittest.main()
