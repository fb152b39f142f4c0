"""Point 21: the fewest claims of a book from which a claim follows, what shows that they are, and the floor."""

import itertools
import unittest

from sparecut.errors import TooMany
from sparecut.fewest import fewest, floor_of, shows_needed
from tests.helper import (
    SETTINGS, asked_twice, book_holds_plainly, chances, claims_plainly, follows_plainly, holds_plainly,
    is_setting_plainly, some_book, some_claim, some_ladder, some_wide_claim, wide_plainly,
)

# For (1,) two claims are enough, though the first ones found one by one are three.
BOOK = ((1, 2), (-2, 1, 3), (-3, -2, 1), (-2, 1), (5,))
# Each of the eight is needed for ().
EIGHT = tuple(
    tuple(sorted(thing * way for thing, way in enumerate(ways, 1))) for ways in itertools.product((-1, 1), repeat=3)
)
STEPS = tuple(tuple(sorted((-thing, thing + 1))) for thing in range(1, 8))
TEN = ((1,),) + STEPS + ((-8, 1), (-8, -1))
# Each of these ten is needed for ().
TEN_NEEDED = ((1, 2, 3), (-3, 1, 2), (-2, 1, 4), (-4, -2, 1), (-1, 5), (-5, -1, 6), (-6, -1, 7), (-7, -1, 8)) + (
    (-8, -1, 2), (-8, -2, -1)
)


def faults_plainly(book, claim):
    """For each setting in which the claim doesn't hold the set of the numbers of the claims that don't."""
    return {
        frozenset(number for number, one in enumerate(book) if not holds_plainly(one, setting))
        for setting in SETTINGS if not holds_plainly(claim, setting)
    }


def fewest_plainly(book, claim):
    """How many claims of the book are needed at least, None where the claim doesn't follow from all."""
    faults = faults_plainly(book, claim)
    for many in range(1, len(book) + 1):
        for numbers in itertools.combinations(range(len(book)), many):
            if all(fault & set(numbers) for fault in faults):
                return many
    return None


def shows_needed_plainly(book, claim, many, table):
    for numbers in itertools.combinations(range(len(book)), many - 1):
        setting = table.get(numbers)
        if not is_setting_plainly(setting) or holds_plainly(claim, setting):
            return False
        if not book_holds_plainly([book[number] for number in numbers], setting):
            return False
    return True


class Telling(unittest.TestCase):
    def told(self, book, claim):
        """What is told, after a look that it is so, and that the floor fits it."""
        told = asked_twice(self, fewest, book, claim)
        floor = asked_twice(self, floor_of, book, claim)
        self.assertIs(type(told), tuple)
        many = fewest_plainly(book, claim)
        if many is None:
            self.assertEqual((told[0], len(told)), ("not", 2))
            self.assertTrue(is_setting_plainly(told[1]))
            self.assertTrue(book_holds_plainly(book, told[1]) and not holds_plainly(claim, told[1]))
            self.assertIsNone(floor)
            return told
        self.assertEqual((told[0], len(told)), ("fewest", 3))
        self.look_at_fewest(book, claim, many, told[1], told[2])
        self.assertEqual(floor, 2 * many - 1)
        self.assertIs(type(floor), int)
        return told

    def look_at_fewest(self, book, claim, many, numbers, table):
        self.assertIs(type(numbers), tuple)
        self.assertEqual(list(numbers), sorted(set(numbers)))
        self.assertTrue(all(type(number) is int and number in range(len(book)) for number in numbers))
        self.assertEqual(len(numbers), many)
        self.assertTrue(follows_plainly([book[number] for number in numbers], claim))
        self.assertIs(type(table), dict)
        self.assertEqual(sorted(table), list(itertools.combinations(range(len(book)), many - 1)))
        self.assertTrue(shows_needed_plainly(book, claim, many, table))
        self.assertIs(asked_twice(self, shows_needed, book, claim, many, table), True)

    def test_one_claim(self):
        told = self.told(((1,),), (1,))
        self.assertEqual(told[1], (0,))
        self.assertEqual(list(told[2]), [()])
        self.told(((),), ())
        self.told(((),), (4,))
        self.told(((1, 2),), (1,))
        self.told(((1, 2),), (1, 2, 3))

    def test_one_is_the_fewest(self):
        for book in (((1, 2), (-2, 1), (1,)), ((1,), (1,)), ((2,), (), (1, 2)), ((5,),) * 9 + ((1,),)):
            told = self.told(book, (1,))
            self.assertEqual(len(told[1]), 1)
            self.assertEqual(list(told[2]), [()])
        self.assertEqual(floor_of(((1, 2), (-2, 1), (1,)), (1,)), 1)

    def test_fewer_than_a_core(self):
        self.assertEqual(self.told(BOOK, (1,))[1], (0, 3))
        self.assertEqual(floor_of(BOOK, (1,)), 3)
        # In the other order, too: the fewest are told, whichever are met with first.
        self.assertEqual(self.told(BOOK[::-1], (1,))[1], (1, 4))

    def test_a_core_with_the_fewest_numbers_however_late(self):
        book = STEPS[:4] + ((-1, 3), (-3, 5), (7,), (6, 8), (-2, 5))
        self.assertEqual(self.told(book, (-1, 5))[1] in ((4, 5), (0, 8)), True)

    def test_all_are_needed(self):
        self.assertEqual(self.told(EIGHT, ())[1], tuple(range(8)))
        self.assertEqual(floor_of(EIGHT, ()), 15)
        self.assertEqual(self.told(STEPS, (-1, 8))[1], tuple(range(7)))
        self.assertEqual(self.told(EIGHT[1:], ())[0], "not")

    def test_ten_claims(self):
        self.assertEqual(len(TEN), 10)
        self.assertEqual(len(TEN_NEEDED), 10)
        self.assertEqual(self.told(TEN, ())[0], "fewest")
        self.assertEqual(self.told(TEN, (1,))[1], (0,))
        self.assertEqual(self.told(TEN, (8,))[1], tuple(range(8)))
        self.assertEqual(self.told(TEN_NEEDED, ())[1], tuple(range(10)))
        self.assertEqual(floor_of(TEN_NEEDED, ()), 19)
        self.told(TEN_NEEDED, (1,))
        self.told(TEN_NEEDED, (-3,))
        self.assertEqual(self.told(((1,),) * 10, (1,))[1] in [(number,) for number in range(10)], True)

    def test_eleven_claims_and_more_are_too_many(self):
        for many in (11, 12, 16):
            for book in (((1,),) * many, ((),) * many, TEN + ((8,),) * (many - 10)):
                # Whether the claim follows or not.
                for claim in ((1,), (), (-1, 2), (-7,)):
                    for ask in (fewest, floor_of):
                        with self.assertRaises(TooMany):
                            ask(book, claim)
                    for number in (1, 2, many):
                        with self.assertRaises(TooMany):
                            shows_needed(book, claim, number, {})

    def test_by_chance(self):
        seen = [0] * 11
        for number, chance in enumerate(chances(160)):
            things, most = (2, 3, 4, 8)[number % 4], (2, 3, 4)[number % 3]
            book = some_book(chance, things, most, chance.choice((1, 2, 5, 9, 10, 10)))
            if number % 2:
                book = tuple(some_wide_claim(chance, (3, 4)[number % 4 // 2], 0) for turn in range(10))
            claim = some_claim(chance, 4, 2)
            told = self.told(book, claim)
            seen[len(told[1]) if told[0] == "fewest" else 0] += 1
        self.assertGreater(seen[0], 20)
        self.assertGreater(seen[1], 20)
        self.assertGreater(seen[2], 5)
        self.assertGreater(sum(seen[3:]), 10)

    def test_no_ladder_has_fewer_rows_than_its_floor(self):
        for number, chance in enumerate(chances(60)):
            book = tuple(some_wide_claim(chance, (3, 4)[number % 2], 0) for turn in range(10))
            ladder = some_ladder(chance, book, (3, 8, 30)[number % 3])
            claim = claims_plainly(book, ladder)[-1]
            self.assertLessEqual(floor_of(book, claim), len(ladder))
            # Of a claim that says less the floor is no higher.
            for say in (5, 6):
                wider = tuple(sorted(claim + (say,)))
                self.assertTrue(wide_plainly(claim, wider))
                self.assertLessEqual(floor_of(book, wider), len(ladder))


class Showing(unittest.TestCase):
    def shows(self, right, book, claim, many, table):
        self.assertIs(asked_twice(self, shows_needed, book, claim, many, table), right, (many, table))
        self.assertIs(shows_needed_plainly(book, claim, many, table), right)

    def test_of_one(self):
        for setting in ((False,) * 8, (False, True) * 4):
            self.shows(True, BOOK, (1,), 1, {(): setting})
        self.shows(False, BOOK, (1,), 1, {(): (True,) * 8})
        self.shows(False, BOOK, (1,), 1, {})
        self.shows(False, BOOK, (1,), 1, {(0,): (False,) * 8})
        self.shows(True, BOOK, (2, 3), 1, {(): (True,) + (False,) * 7})

    def test_of_fewer_than_are_needed(self):
        for book, claim in ((EIGHT, ()), (BOOK, (1,)), (STEPS, (-1, 8))):
            most = len(fewest(book, claim)[1])
            for many in range(1, most + 1):
                table = {}
                for numbers in itertools.combinations(range(len(book)), many - 1):
                    part = [book[number] for number in numbers]
                    table[numbers] = next(
                        setting for setting in SETTINGS
                        if book_holds_plainly(part, setting) and not holds_plainly(claim, setting)
                    )
                self.shows(True, book, claim, many, table)
                self.shows(False, book, claim, many + 1, table)

    def test_of_as_many_as_the_book_has_claims(self):
        table = fewest(EIGHT, ())[2]
        self.assertEqual(len(table), 8)
        self.shows(True, EIGHT, (), 8, table)
        self.shows(False, EIGHT, (), 7, table)
        self.shows(False, BOOK, (1,), 5, table)
        table = fewest(TEN_NEEDED, ())[2]
        self.shows(True, TEN_NEEDED, (), 10, table)
        self.shows(False, TEN_NEEDED, (), 9, table)

    def test_a_row_left_out(self):
        for book, claim in ((EIGHT, ()), (BOOK, (1,)), (((1,),), (1,))):
            numbers, table = fewest(book, claim)[1:]
            for key in list(table):
                less = {other: table[other] for other in table if other != key}
                self.shows(False, book, claim, len(numbers), less)

    def test_rows_more(self):
        numbers, table = fewest(BOOK, (1,))[1:]
        self.assertEqual(len(numbers), 2)
        more = {
            (0, 1): (True,) * 8, (): (True,) * 8, (5,): (False,) * 8, (-1,): (True,) * 8, (1, 0): (False,) * 8,
            (3, 3, 3): (False,) * 8, (10 ** 39,): (True,) * 8,
        }
        self.shows(True, BOOK, (1,), 2, {**table, **more})
        self.shows(True, BOOK, (1,), 2, {**more, **table})

    def test_a_setting_in_which_the_claim_holds(self):
        numbers, table = fewest(BOOK, (1,))[1:]
        for key in table:
            spoilt = dict(table)
            spoilt[key] = (True,) + table[key][1:]
            self.shows(False, BOOK, (1,), 2, spoilt)

    def test_a_setting_in_which_one_of_the_claims_does_not_hold(self):
        table = fewest(EIGHT, ())[2]
        keys = list(table)
        for one, other in zip(keys, keys[1:] + keys[:1]):
            spoilt = dict(table)
            spoilt[one] = table[other]
            self.shows(False, EIGHT, (), 8, spoilt)

    def test_numbers_turned_about(self):
        table = fewest(EIGHT, ())[2]
        turned = {key[::-1]: table[key] for key in table}
        self.shows(False, EIGHT, (), 8, turned)
        self.shows(True, EIGHT, (), 8, {**table, **turned})
        key = list(table)[0]
        spoilt = {other: table[other] for other in table if other != key}
        spoilt[key[::-1]] = table[key]
        spoilt[(key[1], key[0]) + key[2:]] = table[key]
        self.shows(False, EIGHT, (), 8, spoilt)

    def test_no_table_where_fewer_are_enough(self):
        for setting in SETTINGS[:64:7]:
            table = {key: setting for key in itertools.combinations(range(5), 2)}
            self.shows(False, BOOK, (1,), 3, table)

    def test_numbers_somewhat_beyond(self):
        for many in (0, -1, 6, 7):
            self.assertIn(shows_needed(BOOK, (1,), many, {}), (True, False))

    def test_spoilt_by_chance(self):
        seen = {True: 0, False: 0}
        for chance in chances(150):
            book = tuple(some_wide_claim(chance, 3, 1) for turn in range(chance.randint(1, 8)))
            claim = some_claim(chance, 3, 2)
            told = fewest(book, claim)
            if told[0] == "not":
                continue
            for turn in range(6):
                table = dict(told[2])
                key = chance.choice(list(table))
                place = chance.randrange(8)
                table[key] = table[key][:place] + (not table[key][place],) + table[key][place + 1:]
                right = shows_needed_plainly(book, claim, len(told[1]), table)
                seen[right] += 1
                self.shows(right, book, claim, len(told[1]), table)
        self.assertGreater(seen[True], 20)
        self.assertGreater(seen[False], 20)


if __name__ == "__main__":
    unittest.main()
