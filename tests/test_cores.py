"""Point 20: cores of a book for a claim, and what shows them."""

import itertools
import unittest

from sparecut.cores import core, shows_core
from tests.helper import (
    FORTY_FIGURES, asked_twice, book_holds_plainly, chances, deep, follows_plainly, holds_plainly,
    is_setting_plainly, odd_things, some_book, some_claim, some_wide_claim,
)

# Each of the sixteen is needed for ().
SIXTEEN = tuple(
    tuple(sorted(thing * way for thing, way in enumerate(ways, 1))) for ways in itertools.product((-1, 1), repeat=4)
)
STEPS = tuple(tuple(sorted((-thing, thing + 1))) for thing in range(1, 8))


def part_plainly(book, numbers):
    return tuple(book[number] for number in numbers)


def needs_plainly(book, claim, numbers, setting):
    """Whether it is a setting in which all claims with these numbers hold and the claim doesn't."""
    if not is_setting_plainly(setting):
        return False
    return book_holds_plainly(part_plainly(book, numbers), setting) and not holds_plainly(claim, setting)


def shows_core_plainly(book, claim, numbers, settings):
    if any(type(number) is not int or number not in range(len(book)) for number in numbers):
        return False
    if list(numbers) != sorted(set(numbers)) or len(settings) != len(numbers):
        return False
    for at, setting in enumerate(settings):
        if not needs_plainly(book, claim, numbers[:at] + numbers[at + 1:], setting):
            return False
    return follows_plainly(part_plainly(book, numbers), claim)


class Asking(unittest.TestCase):
    def told(self, book, claim):
        """What is told, after a look that it is so and is shown to be."""
        told = asked_twice(self, core, book, claim)
        self.assertIs(type(told), tuple)
        if told[0] == "not":
            self.assertEqual(len(told), 2)
            self.assertTrue(needs_plainly(book, claim, range(len(book)), told[1]))
            return told
        self.assertEqual((told[0], len(told)), ("core", 3))
        self.assertIs(type(told[1]), tuple)
        self.assertIs(type(told[2]), list)
        self.assertTrue(shows_core_plainly(book, claim, told[1], told[2]), (book, claim, told))
        self.assertIs(shows_core(book, claim, told[1], told[2]), True)
        return told


class Telling(Asking):
    def test_one_claim(self):
        self.assertEqual(self.told(((1,),), (1,))[1], (0,))
        self.assertEqual(self.told(((1,),), (1, 2))[1], (0,))
        self.assertEqual(self.told(((),), ())[1], (0,))
        self.assertEqual(self.told(((),), (-8, 3))[1], (0,))
        self.assertEqual(self.told(((1, 2),), (1,))[0], "not")
        self.assertEqual(self.told(((1, 2),), ())[0], "not")
        self.assertEqual(self.told(((1, 2),), (3,))[0], "not")

    def test_what_is_not_needed_is_left_out(self):
        book = ((5, 6), (1, 2), (3,), (-2, 1), (1, 7))
        self.assertEqual(self.told(book, (1,))[1], (1, 3))
        self.assertEqual(self.told(book, (1, 3))[1] in ((1, 3), (2,)), True)
        self.assertEqual(self.told(book, (3,))[1], (2,))
        self.assertEqual(self.told(book, (5,))[0], "not")

    def test_alike_claims(self):
        self.assertIn(self.told(((1,), (1,)), (1,))[1], ((0,), (1,)))
        self.assertEqual(len(self.told(((1,),) * 16, (1,))[1]), 1)
        told = self.told(((1, 2), (-2, 1), (1, 2), (-2, 1)), (1,))
        self.assertEqual(len(told[1]), 2)

    def test_the_claim_without_says_in_the_book(self):
        self.assertEqual(len(self.told(((1,), (), (-1,)), ())[1]) in (1, 2), True)
        self.assertEqual(self.told(((1,), (), (2,)), (-5,))[1], (1,))
        self.assertEqual(len(self.told(((),) * 16, (4,))[1]), 1)

    def test_all_sixteen(self):
        self.assertEqual(self.told(SIXTEEN, ())[1], tuple(range(16)))
        self.assertEqual(self.told(SIXTEEN, (1,))[1], tuple(range(8, 16)))
        self.assertEqual(self.told(SIXTEEN, (-1,))[1], tuple(range(8)))
        self.assertEqual(self.told(SIXTEEN, (5,))[1], tuple(range(16)))
        self.assertEqual(self.told(SIXTEEN[:15], ())[0], "not")
        self.assertEqual(self.told(SIXTEEN[1:], ())[0], "not")
        for claim in SIXTEEN:
            self.assertEqual(self.told(SIXTEEN, claim)[1], (SIXTEEN.index(claim),))

    def test_all_eight_things(self):
        self.assertEqual(self.told(STEPS, (-1, 8))[1], tuple(range(7)))
        self.assertEqual(self.told(STEPS + ((1,),), (8,))[1], tuple(range(8)))
        self.assertEqual(self.told(STEPS, (8,))[0], "not")
        self.assertEqual(self.told(STEPS + ((1,), (-8,)), ())[1], tuple(range(9)))

    def test_by_chance(self):
        many = [0] * 17
        for number, chance in enumerate(chances(240)):
            things, most = (2, 3, 4, 5, 8)[number % 5], (2, 3, 4)[number % 3]
            book = some_book(chance, things, most)
            if number % 2:
                book = tuple(some_wide_claim(chance, (3, 4, 5)[number % 3], 0) for turn in range(16))
            claim = some_claim(chance, things, 2)
            told = self.told(book, claim)
            self.assertEqual(told[0] == "core", follows_plainly(book, claim))
            many[len(told[1]) if told[0] == "core" else 0] += 1
        self.assertGreater(many[0], 20)
        self.assertGreater(many[1], 30)
        self.assertGreater(sum(many[3:]), 30)


class Showing(unittest.TestCase):
    BOOK = ((1, 2), (3,), (-2, 1), (1, 2), (-3, 4), (), (-2, 1))

    def setUp(self):
        self.numbers = (0, 2)
        self.settings = [(False,) * 8, (False, True) + (False,) * 6]
        # Without the claim 0 it is (-2, 1) that holds, without the claim 2 it is (1, 2).

    def shows(self, right, numbers, settings, book=BOOK, claim=(1,)):
        self.assertIs(asked_twice(self, shows_core, book, claim, numbers, settings), right, (numbers, settings))
        self.assertIs(shows_core_plainly(book, claim, numbers, settings), right)

    def test_a_core(self):
        self.shows(True, self.numbers, self.settings)
        self.shows(True, (0, 6), self.settings)
        self.shows(True, (2, 3), self.settings[::-1])
        self.shows(True, (5,), [(False,) * 8])
        self.shows(True, (5,), [(False, True, False, True, True, False, True, True)])

    def test_another_claim(self):
        self.shows(False, self.numbers, self.settings, claim=(2,))
        self.shows(False, self.numbers, self.settings, claim=())
        # The claim holds in one of the settings.
        self.shows(False, self.numbers, self.settings, claim=(1, 2))
        self.shows(True, self.numbers, self.settings, claim=(1, 5))
        self.shows(False, self.numbers, self.settings, claim=(-5, 1))

    def test_no_core_where_the_claim_does_not_follow(self):
        self.shows(False, (), [])
        self.shows(False, (0,), [(False,) * 8])
        self.shows(False, (1,), [(False,) * 8])
        self.shows(False, (0, 4), self.settings)

    def test_no_core_where_one_can_be_left_out(self):
        for setting in itertools.product((False, True), repeat=4):
            self.shows(False, (0, 1, 2), [self.settings[0], setting + (False,) * 4, self.settings[1]])
            self.shows(False, (0, 2, 3), [self.settings[0], self.settings[1], setting + (False,) * 4])
            self.shows(False, (0, 5), [self.settings[0], setting + (False,) * 4])

    def test_numbers_turned_about_and_twice(self):
        self.shows(False, (2, 0), self.settings)
        self.shows(False, (2, 0), self.settings[::-1])
        self.shows(False, (0, 0), self.settings)
        self.shows(False, (0, 0, 2), [self.settings[0]] + self.settings)
        self.shows(False, (0, 2, 2), self.settings + [self.settings[1]])
        self.shows(False, (5, 5), [self.settings[0], self.settings[0]])

    def test_numbers_that_are_none_of_the_book(self):
        for number in (7, 8, 16, FORTY_FIGURES):
            self.shows(False, (0, number), self.settings)
            self.shows(False, (5, number), self.settings)
            self.shows(False, (number,), self.settings[:1])
        for number in (-1, -2, -5, -7, -8, -FORTY_FIGURES):
            self.shows(False, (number, 2), self.settings)
            self.shows(False, (number,), self.settings[:1])

    def test_truths_and_other_things_for_numbers(self):
        self.shows(False, (False, 2), self.settings)
        self.shows(False, (False,), self.settings[:1], book=((1,), (1,)))
        self.shows(False, (True,), self.settings[:1], book=((1,), (1,)))
        self.shows(True, (0,), self.settings[:1], book=((1,), (1,)))
        self.shows(True, (1,), self.settings[:1], book=((1,), (1,)))
        for thing in odd_things():
            if type(thing) is not int:
                self.shows(False, (thing,), self.settings[:1])
                self.shows(False, (thing, 2), self.settings)
                self.shows(False, (0, thing), self.settings)
                self.shows(False, (0, 2, thing), self.settings)
                self.shows(False, (0, 2, thing), self.settings + [self.settings[0]])
        self.shows(False, ("0", "2"), self.settings)
        self.shows(False, ((0, 2),), self.settings)
        self.shows(False, ([0, 2],), self.settings)

    def test_settings_left_out_and_too_many(self):
        self.shows(False, self.numbers, [])
        self.shows(False, self.numbers, self.settings[:1])
        self.shows(False, self.numbers, self.settings[1:])
        self.shows(False, self.numbers, self.settings + [self.settings[0]])
        self.shows(False, self.numbers, self.settings + [None])
        self.shows(False, (), self.settings)
        self.shows(False, (5,), [])

    def test_settings_exchanged(self):
        self.shows(False, self.numbers, self.settings[::-1])
        self.shows(False, self.numbers, [self.settings[0]] * 2)
        self.shows(False, self.numbers, [self.settings[1]] * 2)
        self.shows(False, self.numbers, [(True,) * 8] * 2)

    def test_settings_that_are_none(self):
        none_so = self.settings[0]
        wrong = [
            none_so[:7], none_so + (False,), (), list(none_so), (0,) * 8, none_so[:7] + (0,), none_so[:7] + (None,),
            (False,) * 2 + (0,) + (False,) * 5, ("",) * 8, none_so * 2, [none_so], (none_so,), none_so[:7] + ((),),
            none_so[:7] + ([],), deep(58, none_so), none_so[:7] + (deep(58, False),), "False", 0, False, None,
            ((),) * 8, (none_so,) * 8, (None,) * 8, none_so[:7] + (FORTY_FIGURES,), [False] * 8, (1,) * 8,
        ]
        for setting in wrong + odd_things():
            self.shows(False, self.numbers, [setting, self.settings[1]])
            self.shows(False, self.numbers, [self.settings[0], setting])
            self.shows(False, (5,), [setting])
        self.shows(False, self.numbers, [(False,) * 8, (0, 1) + (0,) * 6])

    def test_long_ones(self):
        self.shows(False, (0, 2) * 200, self.settings * 200)
        self.shows(False, tuple(range(400)), [None] * 400)
        self.shows(False, self.numbers, self.settings * 400)

    def test_all_sixteen(self):
        settings = core(SIXTEEN, ())[2]
        self.shows(True, tuple(range(16)), settings, SIXTEEN, ())
        self.shows(False, tuple(range(15)), settings[:15], SIXTEEN, ())
        self.shows(False, tuple(range(1, 16)), settings[1:], SIXTEEN, ())
        for at in range(15):
            turned = settings[:at] + [settings[at + 1], settings[at]] + settings[at + 2:]
            self.shows(False, tuple(range(16)), turned, SIXTEEN, ())

    def test_spoilt_by_chance(self):
        seen = {True: 0, False: 0}
        for number, chance in enumerate(chances(200)):
            book = some_book(chance, (2, 3, 4)[number % 3], 3, chance.randint(4, 16))
            if number % 2:
                book = tuple(some_wide_claim(chance, (3, 4, 5)[number % 3], 0) for turn in range(16))
            claim = some_claim(chance, 3, 1)
            told = core(book, claim)
            if told[0] == "not":
                continue
            for turn in range(8):
                numbers, settings = list(told[1]), list(told[2])
                at = chance.randrange(len(numbers))
                if turn % 4 == 0:
                    numbers[at] = chance.randrange(-1, 17)
                elif turn % 4 == 1:
                    place = chance.randrange(8)
                    settings[at] = settings[at][:place] + (not settings[at][place],) + settings[at][place + 1:]
                elif turn % 4 == 2:
                    del numbers[at], settings[at]
                else:
                    numbers.insert(at, chance.randrange(len(book)))
                    settings.insert(at, chance.choice(settings))
                right = shows_core_plainly(book, claim, tuple(numbers), settings)
                seen[right] += 1
                self.shows(right, tuple(numbers), settings, book, claim)
        self.assertGreater(seen[True], 50)
        self.assertGreater(seen[False], 200)


if __name__ == "__main__":
    unittest.main()
