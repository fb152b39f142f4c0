"""Ladders by a book: their claims, their cuts and their heights."""

from sparecut.claims import is_whole
from sparecut.cuts import cut_or_none
from sparecut.errors import NoLadder

MOST_ROWS = 200


def is_number_of(thing, many):
    """Whether it is the number of one of so many, counted from 0."""
    return is_whole(thing) and 0 <= thing < many


def claim_of_row(book, claims, row):
    """The claim of a row right behind rows with these claims, None where it is no row there."""
    if not isinstance(row, tuple):
        return None
    if len(row) == 2 and row[0] == "book":
        return book[row[1]] if is_number_of(row[1], len(book)) else None
    if len(row) == 4 and row[0] == "cut":
        if is_number_of(row[1], len(claims)) and is_number_of(row[2], len(claims)):
            return cut_or_none(claims[row[1]], claims[row[2]], row[3])
    return None


def claims_ahead_of_fault(book, thing):
    """The claims of the rows ahead of the first one that is none; no claims where it is no list."""
    claims = []
    if not isinstance(thing, list):
        return claims
    for row in thing[:MOST_ROWS]:
        claim = claim_of_row(book, claims, row)
        if claim is None:
            return claims
        claims.append(claim)
    return claims


def is_ladder(book, thing):
    """Whether anything at all is a ladder by the book."""
    claims = claims_ahead_of_fault(book, thing)
    return len(claims) > 0 and len(claims) == len(thing)


def claims_of(book, ladder):
    """A list of the claims of the ladder's rows; NoLadder where the list is no ladder."""
    claims = claims_ahead_of_fault(book, ladder)
    if len(claims) == 0 or len(claims) < len(ladder):
        raise NoLadder(len(claims))
    return claims


def check_ladder(book, ladder):
    """Refuses with NoLadder a list that is no ladder by the book."""
    claims_of(book, ladder)


def height_of_row(row, heights_ahead):
    """The height of a row, told the heights of the rows ahead of it."""
    if row[0] == "book":
        return 0
    return 1 + max(heights_ahead[row[1]], heights_ahead[row[2]])


def heights(book, ladder):
    """A list of the heights of the ladder's rows."""
    check_ladder(book, ladder)
    told = []
    for row in ladder:
        told.append(height_of_row(row, told))
    return told


def how_many_cuts(book, ladder):
    """How many of the ladder's rows are cuts."""
    check_ladder(book, ladder)
    return len([row for row in ladder if row[0] == "cut"])
