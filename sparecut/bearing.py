"""Dicts that bear cuts or heights: no tree goes below what they tell of its claim."""

from sparecut.least import check_few_things, height_above, ways_to_cut


def cuts_above(one, other):
    """The cuts of a cut of two trees with so many cuts."""
    return one + other + 1


def bears_book(book, numbers):
    """Whether each claim of the book is among the numbers, with 0 or less."""
    return all(claim in numbers and numbers[claim] <= 0 for claim in book)


def bears_pair(numbers, above, one, other):
    """Whether what comes of one and other is among the numbers, with no more than above tells of theirs."""
    most = above(numbers[one], numbers[other])
    return all(claim in numbers and numbers[claim] <= most for k, claim in ways_to_cut(one, other))


def bears(book, numbers, above):
    """Whether the numbers bear all trees by the book, where above tells of two trees what their cut has."""
    check_few_things(book)
    if not bears_book(book, numbers):
        return False
    return all(bears_pair(numbers, above, one, other) for one in numbers for other in numbers)


def bears_cuts(book, thing):
    """Whether the dict bears cuts; TooMany where the book speaks of other things than 1 to 4."""
    return bears(book, thing, cuts_above)


def bears_heights(book, thing):
    """Whether the dict bears heights; TooMany where the book speaks of other things than 1 to 4."""
    return bears(book, thing, height_above)
