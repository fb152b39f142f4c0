"""Settings, where claims hold in them, and what follows from a book."""

from sparecut.claims import MOST_THINGS


def say_holds(say, setting):
    """Whether what is said of one thing is so in the setting."""
    place = abs(say) - 1
    # Of a thing beyond the setting nothing makes it so: no error is due for it.
    so = 0 <= place < len(setting) and setting[place]
    return so == (say > 0)


def holds(claim, setting):
    """Whether one of the claim's says at least holds in the setting."""
    return any(say_holds(say, setting) for say in claim)


def failing(book, setting):
    """A rising list of the numbers of the book's claims that don't hold in the setting."""
    return [number for number, claim in enumerate(book) if not holds(claim, setting)]


def all_hold(book, setting):
    """Whether each claim of the book holds in the setting."""
    return all(holds(claim, setting) for claim in book)


def setting_by_number(number):
    """The setting in which the thing k is so where the number's bit k - 1 is 1."""
    return tuple([(number >> place) & 1 == 1 for place in range(MOST_THINGS)])


def every_setting():
    """All settings, one by one."""
    for number in range(1 << MOST_THINGS):
        yield setting_by_number(number)


def is_setting(thing):
    """Whether anything at all is a setting: a tuple of eight truths."""
    if not isinstance(thing, tuple):
        return False
    return len(thing) == MOST_THINGS and all(isinstance(truth, bool) for truth in thing)


def follows(book, claim):
    """("follows",), or ("not", setting) with one in which the book holds and the claim doesn't."""
    for setting in every_setting():
        if not holds(claim, setting) and all_hold(book, setting):
            return ("not", setting)
    return ("follows",)
