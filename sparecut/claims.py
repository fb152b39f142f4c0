"""Says, claims and books."""

MOST_THINGS = 8
MOST_CLAIMS = 16


def is_whole(thing):
    """Whether it is a whole number."""
    # To Python a truth is an int, too.
    return isinstance(thing, int) and not isinstance(thing, bool)


def is_say(thing):
    """Whether it is a say: a whole number from -8 to 8, not 0."""
    return is_whole(thing) and -MOST_THINGS <= thing <= MOST_THINGS and thing != 0


def is_rising(says):
    """Whether each of the says is greater than the one ahead of it."""
    return all(one < other for one, other in zip(says, says[1:]))


def has_opposites(says):
    """Whether two of the says are opposite."""
    return any(-say in says for say in says if say > 0)


def is_claim(thing):
    """Whether it is a claim: a tuple of says, rising, none twice, no two opposite."""
    if not isinstance(thing, tuple):
        return False
    # Only what is known to be says can be put in order and turned about.
    if not all(is_say(say) for say in thing):
        return False
    return is_rising(thing) and not has_opposites(thing)


def is_book(thing):
    """Whether it is a book: a tuple of 1 to 16 claims."""
    if not isinstance(thing, tuple):
        return False
    return 1 <= len(thing) <= MOST_CLAIMS and all(is_claim(claim) for claim in thing)


def is_wide(one, other):
    """Whether the claim one is as wide as the claim other."""
    return all(say in other for say in one)
