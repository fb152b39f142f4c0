"""Cores: the claims of a book from which another one follows, and none of which can be left out."""

from sparecut.claims import is_rising
from sparecut.ladders import is_number_of
from sparecut.settings import all_hold, follows, holds, is_setting


def claims_by(book, numbers):
    """A tuple of the book's claims with these numbers."""
    return tuple([book[number] for number in numbers])


def without(numbers, number):
    """A list of the numbers but this one."""
    return [other for other in numbers if other != number]


def follows_from(book, numbers, claim):
    """Whether the claim follows from the book's claims with these numbers alone."""
    return follows(claims_by(book, numbers), claim) == ("follows",)


def core_numbers(book, claim):
    """A rising list of the numbers of a core for a claim that follows from the book."""
    numbers = list(range(len(book)))
    for number in range(len(book)):
        if follows_from(book, without(numbers, number), claim):
            numbers = without(numbers, number)
    return numbers


def core(book, claim):
    """("core", numbers, settings), or ("not", setting) where the claim doesn't follow."""
    told = follows(book, claim)
    if told != ("follows",):
        return told
    numbers = core_numbers(book, claim)
    settings = []
    for number in numbers:
        settings.append(follows(claims_by(book, without(numbers, number)), claim)[1])
    return ("core", tuple(numbers), settings)


def shows_need(book, claim, numbers, thing):
    """Whether it is a setting in which all claims with these numbers hold and the claim doesn't."""
    return is_setting(thing) and all_hold(claims_by(book, numbers), thing) and not holds(claim, thing)


def are_rising_numbers(book, things):
    """Whether a tuple of anything is one of numbers of the book's claims, rising."""
    return all(is_number_of(thing, len(book)) for thing in things) and is_rising(things)


def shows_core(book, claim, numbers, settings):
    """Whether the numbers are those of a core for the claim, and the settings show that none can be left out."""
    if not are_rising_numbers(book, numbers) or len(settings) != len(numbers):
        return False
    for number, setting in zip(numbers, settings):
        if not shows_need(book, claim, without(numbers, number), setting):
            return False
    return follows_from(book, numbers, claim)
