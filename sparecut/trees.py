"""Trees by a book: their claims, their pieces and their cuts."""

from sparecut.cuts import cut_or_none
from sparecut.ladders import is_number_of

MOST_PIECES = 360
MOST_WITHIN = 40


def is_fork(thing):
    """Whether it is made as a cut is, whatever its parts are."""
    return isinstance(thing, tuple) and len(thing) == 4 and thing[0] == "cut"


def is_leaf(thing):
    """Whether it is made as a claim of the book is, whatever its number is."""
    return isinstance(thing, tuple) and len(thing) == 2 and thing[0] == "book"


def has_size_of_tree(thing):
    """Whether it has no more pieces, and no more within one another, than a tree may have."""
    waiting = [(thing, 1)]
    pieces = 0
    # A thing whose parts are one and the same may have more pieces than could ever be counted.
    while waiting:
        part, within = waiting.pop()
        pieces += 1
        if pieces > MOST_PIECES or within > MOST_WITHIN:
            return False
        if is_fork(part):
            waiting.append((part[1], within + 1))
            waiting.append((part[2], within + 1))
    return True


def claim_or_none(book, thing):
    """The claim of the thing as a tree of any size, None where it is none."""
    if is_leaf(thing):
        return book[thing[1]] if is_number_of(thing[1], len(book)) else None
    if not is_fork(thing):
        return None
    one = claim_or_none(book, thing[1])
    other = claim_or_none(book, thing[2])
    if one is None or other is None:
        return None
    return cut_or_none(one, other, thing[3])


def is_tree(book, thing):
    """Whether anything at all is a tree by the book."""
    return has_size_of_tree(thing) and claim_or_none(book, thing) is not None


def claim_of_tree(book, tree):
    """The claim of the tree."""
    return claim_or_none(book, tree)


def cuts_of_tree(tree):
    """How many of the tree's pieces are cuts."""
    if tree[0] == "book":
        return 0
    return 1 + cuts_of_tree(tree[1]) + cuts_of_tree(tree[2])


def how_many_pieces(tree):
    """How many pieces the tree has, it itself and all in it."""
    if tree[0] == "book":
        return 1
    return 1 + how_many_pieces(tree[1]) + how_many_pieces(tree[2])
