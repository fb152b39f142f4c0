"""What the tests share: things of all kinds, and a plain reckoning of their own.

Nothing here asks the program: what it tells is held against what is reckoned here.
"""

import copy
import itertools
import random

FORTY_FIGURES = 10 ** 40 - 1
SETTINGS = list(itertools.product((False, True), repeat=8))
ALL_SAYS = [say for say in range(-8, 9) if say != 0]


def deep(many, inner, as_list=False):
    """The thing inner within as many tuples, or lists, as told."""
    for turn in range(many):
        inner = [inner] if as_list else (inner,)
    return inner


def odd_things():
    """Things of all the kinds that "of anything" takes in; none is a claim, a book or a ladder."""
    return [
        None, True, False, 0, 1, -1, 8, FORTY_FIGURES, -FORTY_FIGURES,
        "", "1", "book", "none", "()", "1 2", [], [1], [1, 2], [(1,)], [()], [[]], [None],
        (0,), (9,), (-9,), (True,), (False,), (None,), ("1",), ("book", 0), ("cut", 0, 1, 1),
        (FORTY_FIGURES,), (-FORTY_FIGURES,), (1, FORTY_FIGURES), ([],), ([1],), ((1,), 2), (1, (2,)),
        (1, 1), (2, 1), (-1, 1), (1, None), (None, 1), (1, "2"), (1, True), (-1, True), (False, 1),
        deep(60, 1), deep(60, None), deep(59, ()), deep(60, 1, True), deep(60, "x", True), deep(59, [], True),
        (1, deep(58, 2)), (deep(58, 2), 1), [("book", deep(58, 0))], [deep(58, ("book", 0))],
    ]


def holds_plainly(claim, setting):
    for say in claim:
        if say > 0 and setting[say - 1] is True:
            return True
        if say < 0 and setting[-say - 1] is False:
            return True
    return False


def book_holds_plainly(book, setting):
    return all(holds_plainly(claim, setting) for claim in book)


def follows_plainly(book, claim):
    return all(holds_plainly(claim, setting) for setting in SETTINGS if book_holds_plainly(book, setting))


def is_setting_plainly(thing):
    return type(thing) is tuple and len(thing) == 8 and all(type(truth) is bool for truth in thing)


def some_claim(chance, things=8, most=8):
    """A claim by chance, of these things and with at most so many says."""
    many = chance.randint(0, min(most, things))
    spoken_of = chance.sample(range(1, things + 1), many)
    return tuple(sorted(thing * chance.choice((1, -1)) for thing in spoken_of))


def some_book(chance, things=8, most=8, claims=None):
    many = chance.randint(1, 16) if claims is None else claims
    return tuple(some_claim(chance, things, most) for turn in range(many))


def chances(many):
    """As many sources of chance, the same ones at each run."""
    return [random.Random(f"sparecut {number}") for number in range(many)]


def lists_in(thing):
    """All lists and dicts in the thing, it itself too."""
    found = [thing] if isinstance(thing, (list, dict)) else []
    if isinstance(thing, (list, tuple)):
        for part in thing:
            found.extend(lists_in(part))
    if isinstance(thing, dict):
        for key in thing:
            found.extend(lists_in(thing[key]))
    return found


def asked_twice(test, ask, *handed):
    """What is told, after a look that each list told is new and that all handed in stays as it was.

    The first answer is spoilt ahead of the second question: what is kept of it would show.
    """
    before = copy.deepcopy(handed)
    first = ask(*handed)
    kept = copy.deepcopy(first)
    lists = lists_in(first)
    for part in handed:
        lists.extend(lists_in(part))
    test.assertEqual(len(lists), len({id(part) for part in lists}), "two lists are one")
    for part in lists_in(first):
        part.clear()
        if isinstance(part, list):
            part.append("spoilt")
    test.assertEqual(handed, before, "what is handed in was changed")
    second = ask(*handed)
    test.assertEqual(second, kept)
    test.assertEqual(handed, before, "what is handed in was changed")
    lists.extend(lists_in(second))
    test.assertEqual(len(lists), len({id(part) for part in lists}), "two lists are one")
    return second


def cut_plainly(one, other, k):
    """The claim that comes, or None where there is no cut."""
    if type(k) is not int or k not in range(1, 9) or k not in one or -k not in other:
        return None
    rest = (set(one) - {k}) | (set(other) - {-k})
    if rest & {-say for say in rest}:
        return None
    return tuple(sorted(rest))


def row_claim_plainly(book, claims, row):
    """The claim of a row behind rows with these claims, or None where it is none."""
    if type(row) is not tuple or not row or type(row[0]) is not str:
        return None
    if any(type(part) is not int for part in row[1:]):
        return None
    if row[0] == "book" and len(row) == 2 and row[1] in range(len(book)):
        return book[row[1]]
    if row[0] == "cut" and len(row) == 4 and row[1] in range(len(claims)) and row[2] in range(len(claims)):
        return cut_plainly(claims[row[1]], claims[row[2]], row[3])
    return None


def fault_plainly(book, rows):
    """The number of the first row that is none, 0 where there are no rows, None where all are rows."""
    claims = []
    for number, row in enumerate(rows):
        claim = row_claim_plainly(book, claims, row)
        if claim is None or number == 200:
            return number
        claims.append(claim)
    return None if rows else 0


def claims_plainly(book, ladder):
    claims = []
    for row in ladder:
        claims.append(row_claim_plainly(book, claims, row))
    return claims


def under_plainly(ladder, number):
    """The set of the row's number and of those of all rows on which it stands."""
    found = set()
    waiting = [number]
    while waiting:
        at = waiting.pop()
        if at not in found:
            found.add(at)
            if ladder[at][0] == "cut":
                waiting.extend(ladder[at][1:3])
    return found


def picked_plainly(ladder, numbers, stands_for):
    """The rows with these numbers as a ladder, where stands_for tells of each row which one stands for it."""
    order = sorted(numbers)
    told = []
    for number in order:
        row = ladder[number]
        if row[0] == "cut":
            row = ("cut", order.index(stands_for[row[1]]), order.index(stands_for[row[2]]), row[3])
        told.append(row)
    return told


def some_cut(chance, claims):
    """A row of a cut by chance behind rows with these claims, or None where none was met with."""
    for turn in range(30):
        k = chance.randint(1, 8)
        ones = [number for number, claim in enumerate(claims) if k in claim]
        others = [number for number, claim in enumerate(claims) if -k in claim]
        if ones and others:
            row = ("cut", chance.choice(ones), chance.choice(others), k)
            if row_claim_plainly((), claims, row) is not None:
                return row
    return None


def some_ladder(chance, book, many):
    """A ladder of so many rows by chance; the longer, the more claims are told several times in it."""
    rows, claims = [], []
    while len(rows) < many:
        row = some_cut(chance, claims) if chance.random() < 0.7 else None
        if row is None:
            row = ("book", chance.randrange(len(book)))
        claims.append(row_claim_plainly(book, claims, row))
        rows.append(row)
    return rows


def some_ladders():
    """Pairs of a book and a ladder by chance, from one row to two hundred."""
    told = []
    for number, chance in enumerate(chances(90)):
        things = (2, 3, 4, 5, 8)[number % 5]
        many = (1, 2, 5, 12, 30, 60, 120, 199, 200)[number % 9]
        book = some_book(chance, things, (2, 3, 4)[number % 3])
        told.append((book, some_ladder(chance, book, many)))
    return told


BOOK = ((1, 2), (-1, 2), (-2, 3), (-3,), (-2, 1), (1, 2), ())
# Row 4 tells (), row 2 tells (2,).
LADDER = [
    ("book", 0), ("book", 1), ("cut", 0, 1, 1), ("book", 2), ("cut", 2, 3, 2), ("book", 3), ("cut", 4, 5, 3),
]


def wrong_rows(book, number):
    """Things that are no rows behind the first rows of LADDER, at the place number."""
    far = len(book)
    rows = [
        None, True, 0, 1, FORTY_FIGURES, "", "book", "book 0", "cut 0 1 1", (), [], [[]], ["book", 0],
        ["cut", 0, 1, 1], ("book",), ("cut",), ("book", 0, 0), ("book", 0, 0, 1), ("cut", 0), ("cut", 0, 1),
        ("cut", 0, 1, 1, 1), ("Book", 0), ("books", 0), ("", 0), (0,), (0, "book"), (None, 0), (("book",), 0),
        (["book"], 0), ("bok", 0), ("cot", 0, 1, 1), ("CUT", 0, 1, 1), ("book", None), ("book", "0"), ("book", (0,)),
        ("book", [0]), ("book", True), ("book", False), ("book", -1), ("book", -far), ("book", far),
        ("book", far + 1), ("book", FORTY_FIGURES), ("book", -FORTY_FIGURES), ("book", deep(58, 0)),
        ("book", deep(58, 0, True)), (deep(58, "book"), 0), deep(59, ("book", 0)), deep(59, 0, True),
        ("cut", 0, number, 1), ("cut", number, 1, 1), ("cut", number, number, 1), ("cut", 0, number + 1, 1),
        ("cut", 250, 1, 1), ("cut", 0, FORTY_FIGURES, 1), ("cut", -FORTY_FIGURES, 1, 1), ("cut", -1, 1, 1),
        ("cut", 0, -1, 1), ("cut", -number, 1, 1), ("cut", 0, 1 - number, 1), ("cut", False, 1, 1),
        ("cut", 0, True, 1), ("cut", 0, 1, True), ("cut", "0", 1, 1), ("cut", 0, None, 1), ("cut", 0, 1, "1"),
        ("cut", 0, 1, None), ("cut", (0,), 1, 1), ("cut", 0, [1], 1), ("cut", 0, 1, (1,)), ("cut", 0, 1, 0),
        ("cut", 0, 1, 2), ("cut", 0, 1, 3), ("cut", 0, 1, 8), ("cut", 0, 1, 9), ("cut", 0, 1, -1),
        ("cut", 0, 1, FORTY_FIGURES), ("cut", 1, 0, 1), ("cut", 1, 0, -1), ("cut", 0, 0, 1), ("cut", 1, 1, 1),
    ]
    # Of few rows ahead some of these numbers name others than they are meant to.
    return [row for row in rows if row_claim_plainly(book, claims_plainly(book, LADDER[:number]), row) is None]


def wrong_lists(book=BOOK):
    """Pairs of a list that is no ladder by the book and the number of its first row that is none."""
    told = [([], 0)]
    for number in (0, 1, 2, 5, 7):
        for row in wrong_rows(book, number):
            told.append((LADDER[:number] + [row], number))
            told.append((LADDER[:number] + [row] + LADDER[number:], number))
    told.append((LADDER[:3] + [("book", 99), None, ("book", 99)], 3))
    told.append(([("book", 0)] * 201, 200))
    told.append(([("book", 0)] * 200 + [None], 200))
    told.append(([("book", 0)] * 260, 200))
    told.append(([("book", 0)] * 199 + [None], 199))
    told.append(([("book", 0)] * 199 + [None] * 9, 199))
    told.append(([("book", 0)] * 7 + [None] + [("book", 0)] * 250, 7))
    told.append((LADDER + [("cut", 0, 1, 1)] * 194, 200))
    told.append(([("book", 1), ("book", 4), ("cut", 1, 0, 1)], 2))
    return told
