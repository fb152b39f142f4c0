"""What the tests share: things of all kinds, and a plain reckoning of their own.

Nothing here asks the program: what it tells is held against what is reckoned here.
"""

import copy
import functools
import itertools
import random

FORTY_FIGURES = 10 ** 40 - 1
SETTINGS = list(itertools.product((False, True), repeat=8))
ALL_SAYS = [say for say in range(-8, 9) if say != 0]


def deep(many, inner, as_list=False):
    """The thing inner within as many tuples, or lists, as told."""
    for turn in range(many):
        inner = [inner] if as_list else (inner,)
    return inner


def odd_things():
    """Things of all the kinds that "of anything" takes in; none is a claim, a book or a ladder."""
    return [
        None, True, False, 0, 1, -1, 8, FORTY_FIGURES, -FORTY_FIGURES,
        "", "1", "book", "none", "()", "1 2", [], [1], [1, 2], [(1,)], [()], [[]], [None],
        (0,), (9,), (-9,), (True,), (False,), (None,), ("1",), ("book", 0), ("cut", 0, 1, 1),
        (FORTY_FIGURES,), (-FORTY_FIGURES,), (1, FORTY_FIGURES), ([],), ([1],), ((1,), 2), (1, (2,)),
        (1, 1), (2, 1), (-1, 1), (1, None), (None, 1), (1, "2"), (1, True), (-1, True), (False, 1),
        deep(60, 1), deep(60, None), deep(59, ()), deep(60, 1, True), deep(60, "x", True), deep(59, [], True),
        (1, deep(58, 2)), (deep(58, 2), 1), [("book", deep(58, 0))], [deep(58, ("book", 0))],
    ]


def holds_plainly(claim, setting):
    for say in claim:
        if say > 0 and setting[say - 1] is True:
            return True
        if say < 0 and setting[-say - 1] is False:
            return True
    return False


def book_holds_plainly(book, setting):
    return all(holds_plainly(claim, setting) for claim in book)


def follows_plainly(book, claim):
    return all(holds_plainly(claim, setting) for setting in SETTINGS if book_holds_plainly(book, setting))


def is_setting_plainly(thing):
    return type(thing) is tuple and len(thing) == 8 and all(type(truth) is bool for truth in thing)


def some_claim(chance, things=8, most=8):
    """A claim by chance, of these things and with at most so many says."""
    many = chance.randint(0, min(most, things))
    spoken_of = chance.sample(range(1, things + 1), many)
    return tuple(sorted(thing * chance.choice((1, -1)) for thing in spoken_of))


def some_book(chance, things=8, most=8, claims=None):
    many = chance.randint(1, 16) if claims is None else claims
    return tuple(some_claim(chance, things, most) for turn in range(many))


def every_claim(things):
    """All claims of these things."""
    return [
        tuple(sorted(thing * way for thing, way in enumerate(ways, 1) if way))
        for ways in itertools.product((-1, 0, 1), repeat=things)
    ]


def chances(many):
    """As many sources of chance, the same ones at each run."""
    return [random.Random(f"sparecut {number}") for number in range(many)]


def lists_in(thing):
    """All lists and dicts in the thing, it itself too."""
    found = [thing] if isinstance(thing, (list, dict)) else []
    if isinstance(thing, (list, tuple)):
        for part in thing:
            found.extend(lists_in(part))
    if isinstance(thing, dict):
        for key in thing:
            found.extend(lists_in(thing[key]))
    return found


def asked_twice(test, ask, *handed):
    """What is told, after a look that each list told is new and that all handed in stays as it was.

    The first answer is spoilt ahead of the second question: what is kept of it would show.
    """
    before = copy.deepcopy(handed)
    first = ask(*handed)
    kept = copy.deepcopy(first)
    lists = lists_in(first)
    for part in handed:
        lists.extend(lists_in(part))
    test.assertEqual(len(lists), len({id(part) for part in lists}), "two lists are one")
    for part in lists_in(first):
        part.clear()
        if isinstance(part, list):
            part.append("spoilt")
    test.assertEqual(handed, before, "what is handed in was changed")
    second = ask(*handed)
    test.assertEqual(second, kept)
    test.assertEqual(handed, before, "what is handed in was changed")
    lists.extend(lists_in(second))
    test.assertEqual(len(lists), len({id(part) for part in lists}), "two lists are one")
    return second


def cut_plainly(one, other, k):
    """The claim that comes, or None where there is no cut."""
    if type(k) is not int or k not in range(1, 9) or k not in one or -k not in other:
        return None
    rest = (set(one) - {k}) | (set(other) - {-k})
    if rest & {-say for say in rest}:
        return None
    return tuple(sorted(rest))


def row_claim_plainly(book, claims, row):
    """The claim of a row behind rows with these claims, or None where it is none."""
    if type(row) is not tuple or not row or type(row[0]) is not str:
        return None
    if any(type(part) is not int for part in row[1:]):
        return None
    if row[0] == "book" and len(row) == 2 and row[1] in range(len(book)):
        return book[row[1]]
    if row[0] == "cut" and len(row) == 4 and row[1] in range(len(claims)) and row[2] in range(len(claims)):
        return cut_plainly(claims[row[1]], claims[row[2]], row[3])
    return None


def fault_plainly(book, rows):
    """The number of the first row that is none, 0 where there are no rows, None where all are rows."""
    claims = []
    for number, row in enumerate(rows):
        claim = row_claim_plainly(book, claims, row)
        if claim is None or number == 200:
            return number
        claims.append(claim)
    return None if rows else 0


def claims_plainly(book, ladder):
    claims = []
    for row in ladder:
        claims.append(row_claim_plainly(book, claims, row))
    return claims


def under_plainly(ladder, number):
    """The set of the row's number and of those of all rows on which it stands."""
    found = set()
    waiting = [number]
    while waiting:
        at = waiting.pop()
        if at not in found:
            found.add(at)
            if ladder[at][0] == "cut":
                waiting.extend(ladder[at][1:3])
    return found


def picked_plainly(ladder, numbers, stands_for):
    """The rows with these numbers as a ladder, where stands_for tells of each row which one stands for it."""
    order = sorted(numbers)
    told = []
    for number in order:
        row = ladder[number]
        if row[0] == "cut":
            row = ("cut", order.index(stands_for[row[1]]), order.index(stands_for[row[2]]), row[3])
        told.append(row)
    return told


def some_cut(chance, claims):
    """A row of a cut by chance behind rows with these claims, or None where none was met with."""
    for turn in range(30):
        k = chance.randint(1, 8)
        ones = [number for number, claim in enumerate(claims) if k in claim]
        others = [number for number, claim in enumerate(claims) if -k in claim]
        if ones and others:
            row = ("cut", chance.choice(ones), chance.choice(others), k)
            if row_claim_plainly((), claims, row) is not None:
                return row
    return None


def some_ladder(chance, book, many):
    """A ladder of so many rows by chance; the longer, the more claims are told several times in it."""
    rows, claims = [], []
    while len(rows) < many:
        row = some_cut(chance, claims) if chance.random() < 0.7 else None
        if row is None:
            row = ("book", chance.randrange(len(book)))
        claims.append(row_claim_plainly(book, claims, row))
        rows.append(row)
    return rows


def some_ladders():
    """Pairs of a book and a ladder by chance, from one row to two hundred."""
    told = []
    for number, chance in enumerate(chances(90)):
        things = (2, 3, 4, 5, 8)[number % 5]
        many = (1, 2, 5, 12, 30, 60, 120, 199, 200)[number % 9]
        book = some_book(chance, things, (2, 3, 4)[number % 3])
        told.append((book, some_ladder(chance, book, many)))
    return told


BOOK = ((1, 2), (-1, 2), (-2, 3), (-3,), (-2, 1), (1, 2), ())
# Row 4 tells (), row 2 tells (2,).
LADDER = [
    ("book", 0), ("book", 1), ("cut", 0, 1, 1), ("book", 2), ("cut", 2, 3, 2), ("book", 3), ("cut", 4, 5, 3),
]


def wrong_rows(book, number):
    """Things that are no rows behind the first rows of LADDER, at the place number."""
    far = len(book)
    rows = [
        None, True, 0, 1, FORTY_FIGURES, "", "book", "book 0", "cut 0 1 1", (), [], [[]], ["book", 0],
        ["cut", 0, 1, 1], ("book",), ("cut",), ("book", 0, 0), ("book", 0, 0, 1), ("cut", 0), ("cut", 0, 1),
        ("cut", 0, 1, 1, 1), ("Book", 0), ("books", 0), ("", 0), (0,), (0, "book"), (None, 0), (("book",), 0),
        (["book"], 0), ("bok", 0), ("cot", 0, 1, 1), ("CUT", 0, 1, 1), ("book", None), ("book", "0"), ("book", (0,)),
        ("book", [0]), ("book", True), ("book", False), ("book", -1), ("book", -far), ("book", far),
        ("book", far + 1), ("book", FORTY_FIGURES), ("book", -FORTY_FIGURES), ("book", deep(58, 0)),
        ("book", deep(58, 0, True)), (deep(58, "book"), 0), deep(59, ("book", 0)), deep(59, 0, True),
        ("cut", 0, number, 1), ("cut", number, 1, 1), ("cut", number, number, 1), ("cut", 0, number + 1, 1),
        ("cut", 250, 1, 1), ("cut", 0, FORTY_FIGURES, 1), ("cut", -FORTY_FIGURES, 1, 1), ("cut", -1, 1, 1),
        ("cut", 0, -1, 1), ("cut", -number, 1, 1), ("cut", 0, 1 - number, 1), ("cut", False, 1, 1),
        ("cut", 0, True, 1), ("cut", 0, 1, True), ("cut", "0", 1, 1), ("cut", 0, None, 1), ("cut", 0, 1, "1"),
        ("cut", 0, 1, None), ("cut", (0,), 1, 1), ("cut", 0, [1], 1), ("cut", 0, 1, (1,)), ("cut", 0, 1, 0),
        ("cut", 0, 1, 2), ("cut", 0, 1, 3), ("cut", 0, 1, 8), ("cut", 0, 1, 9), ("cut", 0, 1, -1),
        ("cut", 0, 1, FORTY_FIGURES), ("cut", 1, 0, 1), ("cut", 1, 0, -1), ("cut", 0, 0, 1), ("cut", 1, 1, 1),
    ]
    # Of few rows ahead some of these numbers name others than they are meant to.
    return [row for row in rows if row_claim_plainly(book, claims_plainly(book, LADDER[:number]), row) is None]


def wrong_lists(book=BOOK):
    """Pairs of a list that is no ladder by the book and the number of its first row that is none."""
    told = [([], 0)]
    for number in (0, 1, 2, 5, 7):
        for row in wrong_rows(book, number):
            told.append((LADDER[:number] + [row], number))
            told.append((LADDER[:number] + [row] + LADDER[number:], number))
    told.append((LADDER[:3] + [("book", 99), None, ("book", 99)], 3))
    told.append(([("book", 0)] * 201, 200))
    told.append(([("book", 0)] * 200 + [None], 200))
    told.append(([("book", 0)] * 260, 200))
    told.append(([("book", 0)] * 199 + [None], 199))
    told.append(([("book", 0)] * 199 + [None] * 9, 199))
    told.append(([("book", 0)] * 7 + [None] + [("book", 0)] * 250, 7))
    told.append((LADDER + [("cut", 0, 1, 1)] * 194, 200))
    told.append(([("book", 1), ("book", 4), ("cut", 1, 0, 1)], 2))
    return told


def wide_plainly(one, other):
    return set(one) <= set(other)


def how_many_cuts_plainly(ladder):
    return sum(1 for row in ladder if row[0] == "cut")


def look_at_shorter(test, book, ladder, told):
    """Point 3: a ladder of the same book, whose last claim is as wide, with no more rows and no more cuts."""
    test.assertIs(type(told), list)
    test.assertIsNone(fault_plainly(book, told), told)
    test.assertTrue(wide_plainly(claims_plainly(book, told)[-1], claims_plainly(book, ladder)[-1]))
    test.assertLessEqual(len(told), len(ladder))
    test.assertLessEqual(how_many_cuts_plainly(told), how_many_cuts_plainly(ladder))


def some_short_book(chance, number):
    """A book of few things with short claims: much of its ladders is told as widely elsewhere."""
    things = (2, 3, 4, 5, 8)[number % 5]
    return some_book(chance, things, (2, 3)[number % 2], chance.randint(4, 16))


@functools.cache
def some_dense_ladders():
    """A tuple of pairs of a book and a ladder by chance, of some dozens of rows up to two hundred, many of them needed.

    Of some cuts by chance that with the shortest claim is taken, so that rows are made that tell much; the ladder
    ends with the row that stands on most others.
    """
    told = []
    for number, chance in enumerate(chances(120)):
        book = tuple(some_wide_claim(chance, (5, 6, 7, 8)[number % 4], number % 3) for turn in range(16))
        rows = [("book", at) for at in range(16)]
        claims = list(book)
        while len(rows) < (60, 100, 150, 200)[number // 4 % 4]:
            cuts = [row for row in (some_cut(chance, claims) for turn in range(6)) if row is not None]
            if not cuts:
                break
            new = [row for row in cuts if row_claim_plainly(book, claims, row) not in claims]
            row = min(new or cuts, key=lambda row: len(row_claim_plainly(book, claims, row)))
            rows.append(row if chance.random() < 0.8 else cuts[0])
            claims.append(row_claim_plainly(book, claims, rows[-1]))
        many = [len(under_plainly(rows, at)) for at in range(len(rows))]
        told.append((book, rows[:many.index(max(many)) + 1]))
    return tuple(told)


def some_wide_claim(chance, things, single):
    """A claim of two or three says by chance, seldom, where single isn't 0, one of one say."""
    many = 1 if single and chance.random() < 0.2 else chance.choice((2, 3, 3))
    return tuple(sorted(thing * chance.choice((1, -1)) for thing in chance.sample(range(1, things + 1), many)))


def tree_claim_plainly(book, tree):
    """The claim of what is made as a tree is, of any size, or None where it is none."""
    if type(tree) is not tuple or not tree or type(tree[0]) is not str or type(tree[-1]) is not int:
        return None
    if tree[0] == "book" and len(tree) == 2 and tree[1] in range(len(book)):
        return book[tree[1]]
    if tree[0] != "cut" or len(tree) != 4:
        return None
    one, other = tree_claim_plainly(book, tree[1]), tree_claim_plainly(book, tree[2])
    return None if one is None or other is None else cut_plainly(one, other, tree[3])


def pieces_plainly(tree):
    """A list of all pieces of a tree, in the order in which they are done."""
    if tree[0] == "book":
        return [tree]
    return pieces_plainly(tree[1]) + pieces_plainly(tree[2]) + [tree]


def within_plainly(tree):
    """How many trees are within one another, it itself and the book's claims counted."""
    return 1 if tree[0] == "book" else 1 + max(within_plainly(tree[1]), within_plainly(tree[2]))


def is_regular_plainly(tree):
    ways = [(tree, [])]
    while ways:
        part, things = ways.pop()
        if len(things) != len(set(things)):
            return False
        if part[0] == "cut":
            ways.extend([(part[1], things + [part[3]]), (part[2], things + [part[3]])])
    return True


# From each of the things 1 to 4 to each other one: where the one is so, the other is.
ROUND = tuple(tuple(sorted((-one, other))) for one in range(1, 5) for other in range(1, 5) if one != other)


def round_tree(cuts, one=1, other=2):
    """A tree by ROUND with so many cuts, about as many in the one part as in the other."""
    if cuts == 0:
        return ("book", ROUND.index(tuple(sorted((-one, other)))))
    between = [thing for thing in range(1, 5) if thing not in (one, other)][cuts % 2]
    first = (cuts - 1) // 2
    return ("cut", round_tree(first, one, between), round_tree(cuts - 1 - first, between, other), between)


def deep_round_tree(cuts, within, one=1, other=2):
    """A tree by ROUND with so many cuts and so many within one another, from 6 on."""
    if within == 1:
        return round_tree(0, one, other)
    between = [thing for thing in range(1, 5) if thing not in (one, other)][within % 2]
    spare = min(7, cuts - (within - 1))
    first = deep_round_tree(cuts - 1 - spare, within - 1, one, between)
    return ("cut", first, round_tree(spare, between, other), between)


CHAIN_BOOK = ((-2, 1), (-1, 2), (1,))


def chain_tree(within):
    """A tree by CHAIN_BOOK with so many within one another, and no more cuts than that needs."""
    tree = ("book", 2)
    for turn in range(within - 1):
        tree = ("cut", tree, ("book", 0), 2) if turn % 2 else ("cut", tree, ("book", 1), 1)
    return tree


def chain_ladder(many):
    """A ladder by CHAIN_BOOK with so many rows, at least three; each cut stands on the one ahead of it."""
    rows = [("book", 0), ("book", 1), ("book", 2)]
    while len(rows) < many:
        last = len(rows) - 1
        rows.append(("cut", last, 1, 1) if len(rows) % 2 else ("cut", last, 0, 2))
    return rows


def doubling_ladder(many):
    """A ladder by ROUND with so many rows, at least six; with each six of them the pieces double at least."""
    pairs = [(1, 2), (2, 3), (3, 1), (2, 1), (3, 2), (1, 3)]
    rows = [("book", ROUND.index(tuple(sorted((-one, other))))) for one, other in pairs]
    latest = {pair: number for number, pair in enumerate(pairs)}
    while len(rows) < many:
        one, other = pairs[len(rows) % 6]
        between = 6 - one - other
        rows.append(("cut", latest[one, between], latest[between, other], between))
        latest[one, other] = len(rows) - 1
    return rows


def some_round_ladder(chance, many):
    """A ladder by ROUND with so many rows by chance, whose cuts are made of late rows: its tree is soon too great."""
    rows = [("book", number) for number in range(len(ROUND))]
    claims = list(ROUND)
    while len(rows) < many:
        # Late rows alone might not meet at any thing.
        one, other = (len(rows) - chance.randint(1, chance.choice((12, len(rows)))) for part in range(2))
        for k in range(1, 5):
            claim = cut_plainly(claims[one], claims[other], k)
            if claim is not None:
                rows.append(("cut", one, other, k))
                claims.append(claim)
                break
    return rows


def some_trees(chance, book, many):
    """Trees by the book by chance, its claims and up to so many cuts, the later ones the greater."""
    trees = [("book", number) for number in range(len(book))]
    claims, pieces = list(book), [1] * len(book)
    for turn in range(many * 10):
        if len(trees) == many + len(book):
            break
        # The later of two by chance: else hardly any great tree would be met with.
        one, other = (max(chance.randrange(len(trees)) for pick in range(2)) for part in range(2))
        things = [say for say in claims[one] if -say in claims[other] and say > 0]
        claim = cut_plainly(claims[one], claims[other], things[0]) if things else None
        if claim is not None and 1 + pieces[one] + pieces[other] <= 360:
            tree = ("cut", trees[one], trees[other], things[0])
            if within_plainly(tree) <= 40:
                trees.append(tree)
                claims.append(claim)
                pieces.append(1 + pieces[one] + pieces[other])
    return trees


# All claims of four things with four says.
FULL_FOUR = tuple(claim for claim in every_claim(4) if len(claim) == 4)
# Some of the claims that trees by it tell need many cuts, one above the other, though () is in it.
ROUNDABOUT = ((-2, -1, 3), (-4, -3, 1, 2), (-2, 4), (-2,), (-4, -3, -2), (2,), ())
# Books that speak of other things than 1 to 4, most of them in one claim alone.
FAR_BOOKS = (
    ((1, 2), (-1, 5)), ((8,),), ((1,), (-8,)), ((1, 2, 3, 4), (-5, 1)), ((),) * 15 + ((1, 2, 3, 8),), ((9,), (1,)),
)


@functools.cache
def cuts_plainly():
    """All (one, other, what comes) of claims of four things."""
    claims = every_claim(4)
    cuts = [
        (one, other, cut_plainly(one, other, k)) for one, other in itertools.product(claims, repeat=2)
        for k in range(1, 5)
    ]
    return [cut for cut in cuts if cut[2] is not None]


def least_plainly(book, together):
    """From each claim that a tree tells to the least number: all pairs tried till none gets less."""
    found = {claim: 0 for claim in book}
    changed = True
    while changed:
        changed = False
        for one, other, claim in cuts_plainly():
            if one in found and other in found:
                number = together(found[one], found[other])
                if claim not in found or number < found[claim]:
                    found[claim] = number
                    changed = True
    return found


@functools.cache
def least_cuts_plainly(book):
    return least_plainly(book, lambda one, other: one + other + 1)


@functools.cache
def least_heights_plainly(book):
    return least_plainly(book, lambda one, other: 1 + max(one, other))


def cuts_of_plainly(tree):
    return sum(1 for piece in pieces_plainly(tree) if piece[0] == "cut")


@functools.cache
def some_few_books():
    """Books by chance of one to four things, of one claim to sixteen."""
    books = []
    for number, chance in enumerate(chances(90)):
        things, most = (1, 2, 3, 4, 4, 4)[number % 6], (1, 2, 3, 4)[number % 4]
        book = some_book(chance, things, most, (1, 2, 4, 8, 16)[number % 5])
        if number % 6 > 3:
            book = tuple(some_wide_claim(chance, 4, 1) for turn in range(chance.randint(3, 16)))
        books.append(book)
    return tuple(books) + (ROUND, CHAIN_BOOK, FULL_FOUR, ROUNDABOUT, ((),), ((),) * 16, ((1,),), ((1,), (-1,)))


@functools.cache
def some_few_trees():
    """Pairs of a book of few things and a tree by it."""
    told = []
    for number, book in enumerate(some_few_books()[::2]):
        chance = chances(200)[number]
        for tree in some_trees(chance, book, 12)[-8:]:
            told.append((book, tree))
    for within in (1, 2, 3, 9, 40):
        told.append((CHAIN_BOOK, chain_tree(within)))
    for cuts in (0, 1, 2, 5, 40, 179):
        told.append((ROUND, round_tree(cuts)))
    told.append((ROUND, deep_round_tree(179, 40)))
    return tuple(told)
