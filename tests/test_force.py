"""Point 17: what held says force by a tuple of claims, falls and stands, and what shows them."""

import itertools
import unittest

from sparecut.force import forced, shows_fall, shows_stand
from tests.helper import ALL_SAYS, FORTY_FIGURES, asked_twice, chances, deep, odd_things, some_claim


def behind_plainly(claims, says, steps):
    """The set of what is held behind the steps, or None where one of them is no step."""
    held = set(says)
    for step in steps:
        if type(step) is not tuple or len(step) != 2 or type(step[0]) is not int or type(step[1]) is not int:
            return None
        number, say = step
        if number not in range(len(claims)) or say not in claims[number] or held & {say, -say}:
            return None
        if not {-other for other in claims[number] if other != say} <= held:
            return None
        held.add(say)
    return held


def falling_plainly(claims, held):
    return [number for number, claim in enumerate(claims) if {-say for say in claim} <= held]


def forcing_plainly(claims, held):
    """All steps that can be done next."""
    return [
        (number, say) for number, claim in enumerate(claims) for say in claim
        if behind_plainly(claims, held, [(number, say)]) is not None
    ]


def shows_fall_plainly(claims, says, steps, number):
    held = behind_plainly(claims, says, steps)
    return held is not None and type(number) is int and number in falling_plainly(claims, held)


def shows_stand_plainly(claims, says, steps):
    held = behind_plainly(claims, says, steps)
    return held is not None and not falling_plainly(claims, held) and not forcing_plainly(claims, held)


def some_held(chance, things=8, most=8):
    says = list(some_claim(chance, things, most))
    chance.shuffle(says)
    return says


def some_claims(chance, number):
    """From one to forty claims by chance; one without says, by which all falls at once, is seldom among them."""
    things, most = (2, 3, 4, 6, 8)[number % 5], (2, 3, 4)[number % 3]
    claims = [some_claim(chance, things, most) for turn in range(chance.choice((1, 3, 8, 20, 40)))]
    return tuple(claim if claim or chance.random() < 0.05 else (-2, 1) for claim in claims)


def some_steps(chance, claims, says):
    """Steps by chance, as far as they go or less, in another order than that of the claims."""
    held, steps = list(says), []
    while chance.random() < 0.9:
        ways = forcing_plainly(claims, held)
        if not ways:
            break
        steps.append(chance.choice(ways))
        held.append(steps[-1][1])
    return steps


class Forcing(unittest.TestCase):
    def told(self, claims, says):
        """What is told, after a look that it is so, that it is shown to be, and that the other isn't."""
        told = asked_twice(self, forced, claims, says)
        self.assertIs(type(told), tuple)
        self.assertIs(type(told[1]), list)
        for step in told[1]:
            self.assertIs(type(step), tuple)
        if told[0] == "falls":
            self.assertEqual(len(told), 3)
            self.assertIs(type(told[2]), int)
            self.assertTrue(shows_fall_plainly(claims, says, told[1], told[2]), (claims, says, told))
            self.assertIs(shows_fall(claims, says, told[1], told[2]), True)
        else:
            self.assertEqual(told[0], "stands")
            self.assertEqual(len(told), 2)
            self.assertTrue(shows_stand_plainly(claims, says, told[1]), (claims, says, told))
            for number in range(len(claims)):
                self.assertIs(shows_fall(claims, says, told[1], number), False)
        self.assertIs(shows_stand(claims, says, told[1]), told[0] == "stands")
        return told

    def test_no_claims(self):
        self.assertEqual(self.told((), []), ("stands", []))
        self.assertEqual(self.told((), [1, -2]), ("stands", []))

    def test_no_says(self):
        self.assertEqual(self.told(((1, 2), (-1, 2)), []), ("stands", []))
        self.assertEqual(self.told(((1, 2), (3,)), []), ("stands", [(1, 3)]))
        self.assertEqual(self.told(((1,), (-1,)), [])[0], "falls")

    def test_a_fall_at_once(self):
        self.assertEqual(self.told(((1, 2), (3,)), [-1, -2])[0], "falls")
        self.assertEqual(self.told(((-2, 1),), [2, -1]), ("falls", [], 0))
        self.assertEqual(self.told(((1, 2), (-3, 4), (5,)), [-4, 3, -5])[0], "falls")

    def test_the_claim_without_says_falls(self):
        self.assertEqual(self.told(((),), []), ("falls", [], 0))
        self.assertEqual(self.told(((1, 2), ()), []), ("falls", [], 1))
        self.assertEqual(self.told(((1, 2), (), (1, 3)), [1, 2])[0], "falls")
        self.assertEqual(self.told(((1,),) * 39 + ((),), [])[0], "falls")

    def test_nothing_is_forced(self):
        for says in ([1], [1, 2], [2], [3, -4], [1, -2]):
            self.assertEqual(self.told(((1, 2), (1, 3, 5)), says)[1], [])
        # The one that is left is held already.
        self.assertEqual(self.told(((1, 2),), [-1, 2]), ("stands", []))
        self.assertEqual(self.told(((1, 2, 3),), [-1, 3]), ("stands", []))

    def test_a_row_of_steps(self):
        claims = ((-1, 2), (-2, 3), (-3, 4), (-4, 5))
        self.assertEqual(self.told(claims, [1]), ("stands", [(0, 2), (1, 3), (2, 4), (3, 5)]))
        self.assertEqual(self.told(claims, [-5]), ("stands", [(3, -4), (2, -3), (1, -2), (0, -1)]))
        self.assertEqual(self.told(claims[::-1], [1])[1], [(3, 2), (2, 3), (1, 4), (0, 5)])
        self.assertEqual(self.told(claims + ((-5, -1),), [1])[0], "falls")

    def test_a_fall_behind_steps(self):
        claims = ((1, 2), (1, -2), (-1, 3), (-3, -1))
        for says in ([1], [-1], [2], [-2], [3], [-3]):
            self.told(tuple(tuple(sorted(claim)) for claim in claims), says)
        self.assertEqual(self.told(((1, 2), (-2, 1)), [-1])[0], "falls")

    def test_eight_things_in_a_row(self):
        claims = tuple(tuple(sorted((-thing, thing + 1))) for thing in range(1, 8))
        self.assertEqual(len(self.told(claims, [1])[1]), 7)
        self.assertEqual(len(self.told(claims + ((1,),), [])[1]), 8)
        self.assertEqual(self.told(claims + ((1,), (-8,)), [])[0], "falls")

    def test_wide_claims_force_as_well(self):
        claim = (-8, -6, -4, -2, 1, 3, 5, 7)
        for say in claim:
            says = [-other for other in claim if other != say]
            self.assertEqual(self.told((claim,), says), ("stands", [(0, say)]))
            self.assertEqual(self.told((claim,), says + [say]), ("stands", []))
            self.assertEqual(self.told((claim,), says + [-say]), ("falls", [], 0))

    def test_forty_claims(self):
        claims = tuple((say,) for say in ALL_SAYS[8:]) * 5
        self.assertEqual(len(claims), 40)
        self.assertEqual(len(self.told(claims, [])[1]), 8)
        self.assertEqual(self.told(claims[:39] + ((-8,),), [])[0], "falls")
        self.assertEqual(self.told(claims, [1, 2, 3, 4, 5, 6, 7, 8]), ("stands", []))
        self.assertEqual(self.told(claims, [1, 2, 3, 4, 5, 6, 7, -8])[0], "falls")

    def test_claims_somewhat_beyond_the_limit(self):
        told = self.told(((1, 2),) * 44 + ((-1,),), [])
        self.assertEqual((told[0], told[1][0], len(told[1])), ("stands", (44, -1), 2))

    def test_each_two_claims_of_two_things(self):
        every = [(), (1,), (-1,), (2,), (-2,), (1, 2), (-1, 2), (-2, 1), (-2, -1)]
        for claims in itertools.product(every, repeat=2):
            for says in [[], [1], [-1], [2], [-2], [1, 2], [-1, 2], [-2, 1], [-1, -2]]:
                self.told(claims, says)

    def test_by_chance(self):
        seen = {"falls": 0, "stands": 0}
        long = 0
        for number, chance in enumerate(chances(600)):
            claims = some_claims(chance, number)
            says = some_held(chance, most=chance.choice((0, 1, 2, 8)))
            told = self.told(claims, says)
            seen[told[0]] += 1
            long += len(told[1]) > 2
            # Whatever steps are taken, what is told stays: never both.
            steps = some_steps(chance, claims, says)
            held = behind_plainly(claims, says, steps)
            if told[0] == "stands":
                self.assertEqual(falling_plainly(claims, held), [])
            elif not forcing_plainly(claims, held):
                self.assertNotEqual(falling_plainly(claims, held), [])
        self.assertGreater(seen["falls"], 100)
        self.assertGreater(seen["stands"], 100)
        self.assertGreater(long, 50)


class Showing(unittest.TestCase):
    CLAIMS = ((-1, 2), (-2, 3), (-3, 4), (-4, -1), (5, 6))
    STEPS = [(0, 2), (1, 3), (2, 4)]

    def fall(self, right, claims, says, steps, number):
        self.assertIs(asked_twice(self, shows_fall, claims, says, steps, number), right, (steps, number))
        self.assertIs(shows_fall_plainly(claims, says, steps, number), right)

    def stand(self, right, claims, says, steps):
        self.assertIs(asked_twice(self, shows_stand, claims, says, steps), right, steps)
        self.assertIs(shows_stand_plainly(claims, says, steps), right)

    def test_a_fall(self):
        self.fall(True, self.CLAIMS, [1], self.STEPS, 3)
        self.fall(True, self.CLAIMS, [1], [(3, -4), (2, -3), (1, -2)], 0)
        self.fall(True, self.CLAIMS, [1], [(3, -4), (0, 2), (2, -3)], 1)
        self.fall(True, self.CLAIMS, [4, 1], [], 3)
        self.fall(True, ((),), [], [], 0)

    def test_a_claim_that_does_not_fall(self):
        for number in (0, 1, 2, 4):
            self.fall(False, self.CLAIMS, [1], self.STEPS, number)
        self.fall(False, self.CLAIMS, [1], self.STEPS[:2], 3)
        self.fall(False, self.CLAIMS, [1], [], 3)
        self.fall(False, self.CLAIMS, [], [], 3)

    def test_a_number_that_is_none(self):
        for number in (5, 6, -1, -2, -5, 40, FORTY_FIGURES, -FORTY_FIGURES, None, "3", "", (3,), [3], (), [], True):
            self.fall(False, self.CLAIMS, [1], self.STEPS, number)
        for number in odd_things():
            if type(number) is not int:
                self.fall(False, ((), ()), [], [], number)
        self.fall(True, ((), ()), [], [], 0)
        self.fall(True, ((), ()), [], [], 1)
        self.fall(False, ((), ()), [], [], False)
        self.fall(False, ((), ()), [], [], True)
        self.fall(False, ((), ()), [], [], 2)
        self.fall(False, ((), ()), [], [], -1)
        self.fall(False, (), [], [], 0)
        self.fall(False, (), [], [], -1)

    def test_a_stand(self):
        claims = self.CLAIMS[:3] + self.CLAIMS[4:]
        self.stand(True, claims, [1], self.STEPS)
        self.stand(True, claims, [], [])
        self.stand(True, (), [], [])
        self.stand(True, (), [1, -2], [])
        self.stand(True, claims, [-4], [(2, -3), (1, -2), (0, -1)])
        self.stand(True, claims, [1, 2, 3, 4], [])
        # In another order: where two are forced, either may go first.
        self.stand(True, ((1,), (2,)), [], [(0, 1), (1, 2)])
        self.stand(True, ((1,), (2,)), [], [(1, 2), (0, 1)])

    def test_no_stand_where_one_is_forced_still(self):
        claims = self.CLAIMS[:3]
        for many in range(3):
            self.stand(False, claims, [1], self.STEPS[:many])
        self.stand(False, ((1,),), [], [])

    def test_no_stand_where_one_falls(self):
        self.stand(False, self.CLAIMS, [1], self.STEPS)
        self.stand(False, ((),), [], [])
        self.stand(False, ((1, 2), (3, 4)), [-1, -2], [])
        # Nothing is forced any more.
        self.stand(False, ((1,), (-1,)), [1], [])

    def test_steps_may_go_on_behind_a_fall(self):
        claims = ((1,), (-1,), (2,))
        self.fall(True, claims, [], [(0, 1), (2, 2)], 1)
        self.fall(True, claims, [], [(0, 1)], 1)

    def test_a_say_that_is_not_forced(self):
        for step in ((0, -2), (0, 1), (0, -1), (0, 3), (1, 3), (1, -2), (2, 4), (4, 5), (4, 6), (3, -1), (0, 0), (0, 9)):
            for steps in ([step], [step] + self.STEPS, [step] + self.STEPS[1:]):
                self.fall(False, self.CLAIMS, [1], steps, 3)
                self.stand(False, self.CLAIMS[:3], [1], steps)
        self.stand(False, ((1, 2),), [], [(0, 1)])

    def test_a_say_that_is_held_already(self):
        self.fall(False, self.CLAIMS, [1], self.STEPS + [(0, 2)], 3)
        self.fall(False, self.CLAIMS, [1, 2], self.STEPS, 3)
        self.stand(False, self.CLAIMS[:3], [1], self.STEPS + [(0, 2)])
        self.stand(False, self.CLAIMS[:3], [1], self.STEPS + [self.STEPS[-1]])
        self.stand(False, ((1,),), [1], [(0, 1)])
        self.stand(False, ((1,), (1,)), [], [(0, 1), (1, 1)])
        self.stand(True, ((1,), (1,)), [], [(1, 1)])

    def test_a_say_whose_opposite_is_held(self):
        self.fall(False, ((1,),), [-1], [(0, 1)], 0)
        self.fall(True, ((1,),), [-1], [], 0)
        self.fall(False, ((1,), (-1,)), [], [(0, 1), (1, -1)], 0)

    def test_the_right_say_by_another_claim(self):
        self.fall(False, self.CLAIMS, [1], [(1, 2), (1, 3), (2, 4)], 3)
        self.stand(False, self.CLAIMS[:3], [1], [(0, 2), (2, 3), (2, 4)])

    def test_steps_in_the_wrong_order(self):
        self.fall(False, self.CLAIMS, [1], self.STEPS[::-1], 3)
        self.stand(False, self.CLAIMS[:3], [1], [self.STEPS[1], self.STEPS[0], self.STEPS[2]])

    def test_steps_that_are_none(self):
        wrong = [
            [0, 2], (0,), (0, 2, 2), (), [], None, "02", "", 0, 2, True, (False, 2), ("0", 2), (0, "2"), (0, None),
            (None, 2), (0, (2,)), (0, [2]), ((0,), 2), ([0], 2), (-5, 2), (-1, 2), (5, 2), (40, 2), (FORTY_FIGURES, 2),
            (0, FORTY_FIGURES), (-FORTY_FIGURES, -FORTY_FIGURES), (2, 0), (0, True), deep(59, 0), deep(59, 0, True),
            (0, deep(58, 2)), (deep(58, 0), 2),
        ]
        for step in wrong + [thing for thing in odd_things() if thing not in ((0, 2),)]:
            self.fall(False, self.CLAIMS, [1], [step] + self.STEPS, 3)
            self.fall(False, self.CLAIMS, [1], [step] + self.STEPS[1:], 3)
            self.fall(False, self.CLAIMS, [1], self.STEPS + [step], 3)
            self.stand(False, self.CLAIMS[:3], [1], [step] + self.STEPS[1:])
            self.stand(False, self.CLAIMS[:3], [1], self.STEPS + [step])

    def test_truths_in_the_place_of_numbers(self):
        claims = ((1,), (1, 2))
        self.stand(True, claims, [], [(0, 1)])
        self.stand(False, claims, [], [(0, True)])
        self.stand(False, claims, [], [(False, 1)])
        self.stand(False, claims, [], [(False, True)])
        claims = ((2, 3), (1,))
        self.stand(True, claims, [], [(1, 1)])
        self.stand(False, claims, [], [(True, 1)])
        self.stand(False, claims, [], [(1, True)])
        self.fall(True, ((1,), (-1,)), [], [(0, 1)], 1)
        self.fall(False, ((1,), (-1,)), [], [(0, 1)], True)
        self.fall(False, ((1,), (-1,)), [], [(0, True)], 1)
        self.fall(False, ((1,), (-1,)), [], [(False, 1)], 1)

    def test_long_lists(self):
        self.stand(False, self.CLAIMS[:3], [1], self.STEPS * 500)
        self.fall(False, self.CLAIMS, [1], [None] * 500, 3)

    def test_by_chance(self):
        seen = {"fall": 0, "no fall": 0, "stand": 0, "no stand": 0}
        for number, chance in enumerate(chances(800)):
            claims = some_claims(chance, number)
            says = some_held(chance, most=chance.choice((0, 1, 2, 8)))
            steps = some_steps(chance, claims, says)
            if steps and chance.random() < 0.3:
                at = chance.randrange(len(steps))
                steps[at] = chance.choice([(chance.randint(-1, 4), chance.randint(-8, 8)), steps[0], list(steps[at])])
            at = chance.randint(-1, len(claims))
            falling = falling_plainly(claims, behind_plainly(claims, says, steps) or set())
            for at in (at, *falling[:1]):
                right = shows_fall_plainly(claims, says, steps, at)
                self.assertIs(shows_fall(claims, says, steps, at), right)
                seen["fall" if right else "no fall"] += 1
            right = shows_stand_plainly(claims, says, steps)
            self.assertIs(shows_stand(claims, says, steps), right)
            seen["stand" if right else "no stand"] += 1
        self.assertGreater(min(seen.values()), 50, seen)


if __name__ == "__main__":
    unittest.main()
