"""The fewest claims of a book from which another one follows, and the floor under its ladders."""

from sparecut.cores import shows_need
from sparecut.errors import TooMany
from sparecut.settings import every_setting, failing, follows, holds

MOST_LOOKED_THROUGH = 10


def check_few_claims(book):
    """Refuses with TooMany a book that has too many claims to look through all their parts."""
    if len(book) > MOST_LOOKED_THROUGH:
        raise TooMany(f"the book has more than {MOST_LOOKED_THROUGH} claims")


def numbers_behind(numbers, many):
    """A list of the numbers below many that are greater than the last of these, all where there are none."""
    return list(range(numbers[-1] + 1 if numbers else 0, many))


def rising_tuples(many, length):
    """A list of all rising tuples of as many numbers as length tells, each from 0 on and below many."""
    told = [()]
    for turn in range(length):
        told = [numbers + (number,) for numbers in told for number in numbers_behind(numbers, many)]
    return told


def settings_by_fault(book, claim):
    """From each list of claims that don't hold together with the claim, as a tuple of numbers, to such a setting."""
    told = {}
    for setting in every_setting():
        if not holds(claim, setting):
            told[tuple(failing(book, setting))] = setting
    return told


def setting_of(by_fault, numbers):
    """A setting in which all claims with these numbers hold and the claim doesn't, None where there is none."""
    for fault, setting in by_fault.items():
        if not any(number in fault for number in numbers):
            return setting
    return None


def fewest(book, claim):
    """("fewest", numbers, table), or ("not", setting) where the claim doesn't follow."""
    check_few_claims(book)
    told = follows(book, claim)
    if told != ("follows",):
        return told
    by_fault = settings_by_fault(book, claim)
    table = {}
    for length in range(len(book)):
        settings = {numbers: setting_of(by_fault, numbers) for numbers in rising_tuples(len(book), length)}
        for numbers in settings:
            if settings[numbers] is None:
                return ("fewest", numbers, table)
        table = settings
    return ("fewest", tuple(range(len(book))), table)


def shows_needed(book, claim, many, table):
    """Whether the table shows that so many numbers at least are needed for the claim."""
    check_few_claims(book)
    for numbers in rising_tuples(len(book), many - 1):
        if not shows_need(book, claim, numbers, table.get(numbers)):
            return False
    return True


def floor_of(book, claim):
    """How many rows a ladder of the claim, or of one as wide, has at least; None where it doesn't follow."""
    told = fewest(book, claim)
    if told[0] == "not":
        return None
    # Each of the numbers is a row of its own, and so many rows are joined by one cut fewer.
    return 2 * len(told[1]) - 1
