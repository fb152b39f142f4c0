"""Point 4: says, claims, books, "as wide as"; point 2: whole numbers, truths told, "of anything"."""

import itertools
import unittest

from sparecut.claims import is_book, is_claim, is_wide
from tests.helper import ALL_SAYS, FORTY_FIGURES, asked_twice, chances, deep, odd_things, some_book, some_claim

FULL = (-8, -6, -4, -2, 1, 3, 5, 7)


class Claims(unittest.TestCase):
    def is_so(self, thing):
        self.assertIs(is_claim(thing), True, thing)

    def is_not_so(self, thing):
        self.assertIs(is_claim(thing), False, thing)

    def test_no_says(self):
        self.is_so(())

    def test_one_say(self):
        for say in ALL_SAYS:
            self.is_so((say,))

    def test_all_eight_things(self):
        for signs in itertools.product((1, -1), repeat=8):
            self.is_so(tuple(sorted(thing * sign for thing, sign in zip(range(1, 9), signs))))

    def test_numbers_that_are_no_says(self):
        for number in (0, 9, -9, 10, -10, 16, 100, FORTY_FIGURES, -FORTY_FIGURES):
            self.is_not_so((number,))
            self.is_not_so(tuple(sorted((number, 2))))
            self.is_not_so(tuple(sorted((number, -3, 2))))

    def test_opposite_says(self):
        for thing in range(1, 9):
            self.is_not_so((-thing, thing))
        self.is_not_so((-2, 1, 2))
        self.is_not_so((-8, -6, -4, -2, 1, 3, 5, 7, 8))
        self.is_not_so(tuple(ALL_SAYS))

    def test_a_say_twice(self):
        for say in ALL_SAYS:
            self.is_not_so((say, say))
        self.is_not_so((1, 2, 2))
        self.is_not_so((-3, -3, 2))

    def test_says_not_rising(self):
        self.is_not_so((2, 1))
        self.is_not_so((1, -2))
        self.is_not_so((-1, -2))
        self.is_not_so((1, 3, 2))
        self.is_not_so((-3, 2, 1))
        self.is_not_so(FULL[::-1])

    def test_each_pair_of_says(self):
        for one, other in itertools.product(ALL_SAYS, repeat=2):
            self.assertIs(is_claim((one, other)), one < other and one != -other)

    def test_truths_are_no_whole_numbers(self):
        for thing in ((True,), (False,), (True, 2), (-1, True), (-2, True), (False, True), (-3, False, 2)):
            self.is_not_so(thing)

    def test_lists_and_texts_are_no_claims(self):
        for thing in ([], [1], [1, 2], [-1], "", "1", "none", "()", ("1",), ("1", "2"), (1, "2"), ("",)):
            self.is_not_so(thing)

    def test_other_things_within(self):
        for part in (None, (), (1,), [], [1], "", "1", True, deep(58, 1), deep(58, 1, True)):
            self.is_not_so((part,))
            self.is_not_so((1, part))
            self.is_not_so((part, 1))
            self.is_not_so((1, part, 2))

    def test_anything_odd(self):
        for thing in odd_things():
            self.is_not_so(thing)

    def test_long_tuples(self):
        self.is_not_so((1,) * 5000)
        self.is_not_so(tuple(range(-5000, 5000)))

    def test_by_chance(self):
        for chance in chances(200):
            self.is_so(some_claim(chance))
            says = tuple(chance.randint(-9, 9) for turn in range(chance.randint(0, 4)))
            right = (
                all(say in ALL_SAYS for say in says)
                and list(says) == sorted(set(says))
                and len({abs(say) for say in says}) == len(says)
            )
            self.assertIs(is_claim(says), right, says)


class Books(unittest.TestCase):
    def is_so(self, thing):
        self.assertIs(is_book(thing), True, thing)

    def is_not_so(self, thing):
        self.assertIs(is_book(thing), False, thing)

    def test_from_one_to_sixteen_claims(self):
        for many in range(1, 17):
            self.is_so(((1, 2),) * many)
        claims = tuple((say,) for say in ALL_SAYS)
        self.assertEqual(len(claims), 16)
        self.is_so(claims)

    def test_seventeen_claims_are_too_many(self):
        self.is_not_so(tuple((say,) for say in ALL_SAYS) + ((1, 2),))
        self.is_not_so(((),) * 17)
        self.is_not_so(((1,),) * 200)

    def test_no_claims_are_too_few(self):
        self.is_not_so(())

    def test_alike_claims_and_the_claim_without_says(self):
        self.is_so(((1, 2), (1, 2)))
        self.is_so(((),))
        self.is_so(((), ()))
        self.is_so((FULL, (), FULL))

    def test_opposite_claims_and_claims_not_rising(self):
        self.is_so(((1,), (-1,)))
        self.is_so(((3,), (1,), (2,)))

    def test_one_wrong_claim_makes_it_none(self):
        wrong = [
            0, 1, None, True, "", "1", [], [1], (0,), (9,), (-9,), (1, 1), (2, 1), (-1, 1), (True,), (None,),
            ("1",), ((1,),), (FORTY_FIGURES,), (-FORTY_FIGURES,), deep(57, 1), deep(57, 1, True),
        ]
        for claim in wrong:
            self.is_not_so((claim,))
            self.is_not_so((claim, (1,)))
            self.is_not_so(((1,), claim))
            self.is_not_so(((1,),) * 15 + (claim,))

    def test_lists_and_other_things(self):
        for thing in ([], [()], [(1,)], [[1]], ([1],), ([],), (1,), (1, 2), None, True, 0, 1, "", "1 / 2", "none"):
            self.is_not_so(thing)

    def test_anything_odd(self):
        for thing in odd_things():
            self.is_not_so(thing)

    def test_by_chance(self):
        for chance in chances(100):
            self.is_so(some_book(chance))


class Wideness(unittest.TestCase):
    def test_ordinary_claims(self):
        self.assertIs(is_wide((1,), (1, 2)), True)
        self.assertIs(is_wide((1, 2), (1,)), False)
        self.assertIs(is_wide((1,), (-1,)), False)
        self.assertIs(is_wide((1,), (-1, 2)), False)
        self.assertIs(is_wide((-3, 2), (-3, 1, 2)), True)
        self.assertIs(is_wide((-3, 2), (-3, 1)), False)

    def test_each_is_as_wide_as_itself(self):
        for claim in ((), (1,), (-8,), (-2, 1), FULL):
            self.assertIs(is_wide(claim, claim), True)

    def test_none_is_as_wide_as_all(self):
        for claim in ((), (1,), (-2, 1), FULL):
            self.assertIs(is_wide((), claim), True)
            self.assertIs(is_wide(claim, ()), claim == ())

    def test_by_chance(self):
        for chance in chances(300):
            one, other = some_claim(chance, 4), some_claim(chance, 4)
            self.assertIs(is_wide(one, other), set(one) <= set(other))
            part = tuple(say for say in other if chance.random() < 0.6)
            self.assertIs(is_wide(part, other), True)


class Handing(unittest.TestCase):
    def test_what_is_handed_in_stays_and_the_answer_too(self):
        for thing in odd_things():
            asked_twice(self, is_claim, thing)
            asked_twice(self, is_book, thing)


if __name__ == "__main__":
    unittest.main()
