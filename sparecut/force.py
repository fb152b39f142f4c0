"""What says that are held force by claims: falls and stands."""

from sparecut.claims import is_whole
from sparecut.ladders import is_number_of


def falls(claim, held):
    """Whether all says of the claim are opposite to held ones."""
    return all(-say in held for say in claim)


def forced_say(claim, held):
    """The say that the claim forces to be held, None where it forces none."""
    left = [say for say in claim if -say not in held]
    if len(left) == 1 and left[0] not in held:
        return left[0]
    return None


def first_fall(claims, held):
    """The number of the first claim that falls, None where none does."""
    for number, claim in enumerate(claims):
        if falls(claim, held):
            return number
    return None


def first_step(claims, held):
    """The step of the first claim that forces a say, None where none does."""
    for number, claim in enumerate(claims):
        say = forced_say(claim, held)
        if say is not None:
            return (number, say)
    return None


def forced(claims, says):
    """("falls", steps, number), or ("stands", steps), where the says are held at first."""
    held = list(says)
    steps = []
    number = first_fall(claims, held)
    step = first_step(claims, held)
    while number is None and step is not None:
        steps.append(step)
        held.append(step[1])
        number = first_fall(claims, held)
        step = first_step(claims, held)
    if number is None:
        return ("stands", steps)
    return ("falls", steps, number)


def is_step(claims, held, thing):
    """Whether anything at all is a step: a claim's number, and the say that it forces."""
    if not isinstance(thing, tuple) or len(thing) != 2:
        return False
    # A truth would be equal to the number or the say that it isn't.
    if not is_number_of(thing[0], len(claims)) or not is_whole(thing[1]):
        return False
    return forced_say(claims[thing[0]], held) == thing[1]


def held_behind(claims, says, steps):
    """A list of the says that are held behind the steps, None where one of these is no step."""
    held = list(says)
    for step in steps:
        if not is_step(claims, held, step):
            return None
        held.append(step[1])
    return held


def shows_fall(claims, says, steps, number):
    """Whether the steps are such, one behind the other, and the claim with this number falls behind them."""
    held = held_behind(claims, says, steps)
    if held is None or not is_number_of(number, len(claims)):
        return False
    return falls(claims[number], held)


def shows_stand(claims, says, steps):
    """Whether the steps are such, one behind the other, and behind them no claim falls and none forces."""
    held = held_behind(claims, says, steps)
    if held is None:
        return False
    return first_fall(claims, held) is None and first_step(claims, held) is None
