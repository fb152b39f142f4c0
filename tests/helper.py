"""What the tests share: things of all kinds, and a plain reckoning of their own.

Nothing here asks the program: what it tells is held against what is reckoned here.
"""

import copy
import itertools
import random

FORTY_FIGURES = 10 ** 40 - 1
SETTINGS = list(itertools.product((False, True), repeat=8))
ALL_SAYS = [say for say in range(-8, 9) if say != 0]


def deep(many, inner, as_list=False):
    """The thing inner within as many tuples, or lists, as told."""
    for turn in range(many):
        inner = [inner] if as_list else (inner,)
    return inner


def odd_things():
    """Things of all the kinds that "of anything" takes in; none is a claim, a book or a ladder."""
    return [
        None, True, False, 0, 1, -1, 8, FORTY_FIGURES, -FORTY_FIGURES,
        "", "1", "book", "none", "()", "1 2", [], [1], [1, 2], [(1,)], [()], [[]], [None],
        (0,), (9,), (-9,), (True,), (False,), (None,), ("1",), ("book", 0), ("cut", 0, 1, 1),
        (FORTY_FIGURES,), (-FORTY_FIGURES,), (1, FORTY_FIGURES), ([],), ([1],), ((1,), 2), (1, (2,)),
        (1, 1), (2, 1), (-1, 1), (1, None), (None, 1), (1, "2"), (1, True), (-1, True), (False, 1),
        deep(60, 1), deep(60, None), deep(59, ()), deep(60, 1, True), deep(60, "x", True), deep(59, [], True),
        (1, deep(58, 2)), (deep(58, 2), 1), [("book", deep(58, 0))], [deep(58, ("book", 0))],
    ]


def holds_plainly(claim, setting):
    for say in claim:
        if say > 0 and setting[say - 1] is True:
            return True
        if say < 0 and setting[-say - 1] is False:
            return True
    return False


def book_holds_plainly(book, setting):
    return all(holds_plainly(claim, setting) for claim in book)


def follows_plainly(book, claim):
    return all(holds_plainly(claim, setting) for setting in SETTINGS if book_holds_plainly(book, setting))


def is_setting_plainly(thing):
    return type(thing) is tuple and len(thing) == 8 and all(type(truth) is bool for truth in thing)


def some_claim(chance, things=8, most=8):
    """A claim by chance, of these things and with at most so many says."""
    many = chance.randint(0, min(most, things))
    spoken_of = chance.sample(range(1, things + 1), many)
    return tuple(sorted(thing * chance.choice((1, -1)) for thing in spoken_of))


def some_book(chance, things=8, most=8, claims=None):
    many = chance.randint(1, 16) if claims is None else claims
    return tuple(some_claim(chance, things, most) for turn in range(many))


def chances(many):
    """As many sources of chance, the same ones at each run."""
    return [random.Random(f"sparecut {number}") for number in range(many)]


def lists_in(thing):
    """All lists and dicts in the thing, it itself too."""
    found = [thing] if isinstance(thing, (list, dict)) else []
    if isinstance(thing, (list, tuple)):
        for part in thing:
            found.extend(lists_in(part))
    if isinstance(thing, dict):
        for key in thing:
            found.extend(lists_in(thing[key]))
    return found


def asked_twice(test, ask, *handed):
    """What is told, after a look that each list told is new and that all handed in stays as it was.

    The first answer is spoilt ahead of the second question: what is kept of it would show.
    """
    before = copy.deepcopy(handed)
    first = ask(*handed)
    kept = copy.deepcopy(first)
    lists = lists_in(first)
    for part in handed:
        lists.extend(lists_in(part))
    test.assertEqual(len(lists), len({id(part) for part in lists}), "two lists are one")
    for part in lists_in(first):
        part.clear()
        if isinstance(part, list):
            part.append("spoilt")
    test.assertEqual(handed, before, "what is handed in was changed")
    second = ask(*handed)
    test.assertEqual(second, kept)
    test.assertEqual(handed, before, "what is handed in was changed")
    lists.extend(lists_in(second))
    test.assertEqual(len(lists), len({id(part) for part in lists}), "two lists are one")
    return second
