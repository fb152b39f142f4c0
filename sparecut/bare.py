"""Bare ladders: nothing in them is spare, and nothing is told that was told as widely already."""

from sparecut.anew import lacking_row, put_row
from sparecut.claims import is_wide
from sparecut.ladders import check_ladder, claim_of_row, claims_of
from sparecut.standing import moved_row, rows_under, trimmed_to


def first_wide(claims, claim):
    """The number of the first of the claims that is as wide as the claim, None where none is."""
    for number, one in enumerate(claims):
        if is_wide(one, claim):
            return number
    return None


def all_needed(ladder):
    """Whether the last row stands on all others."""
    return len(rows_under(ladder, len(ladder) - 1)) == len(ladder)


def is_told_by_book(book, row, claim):
    """Whether a row with this claim is a cut and yet the book tells a claim as wide."""
    return row[0] == "cut" and first_wide(book, claim) is not None


def is_bare(book, ladder):
    """Whether the ladder is bare."""
    claims = claims_of(book, ladder)
    if not all_needed(ladder):
        return False
    for number, row in enumerate(ladder):
        if first_wide(claims[:number], claims[number]) is not None:
            return False
        if is_told_by_book(book, row, claims[number]):
            return False
    return True


def put_bare(book, rows, claims, row):
    """The number of the row that stands for this one behind the rows; put there is at most one."""
    place = lacking_row(claims, row)
    if place is not None:
        return place
    claim = claim_of_row(book, claims, row)
    place = first_wide(claims, claim)
    if place is not None:
        return place
    # No row ahead is as wide as this claim of the book, else it were as wide as the cut's, too.
    if is_told_by_book(book, row, claim):
        return put_row(book, rows, claims, ("book", first_wide(book, claim)))
    return put_row(book, rows, claims, row)


def made_bare(book, ladder):
    """A bare ladder whose last claim is as wide, with no more rows and no more cuts."""
    check_ladder(book, ladder)
    rows, claims, places = [], [], []
    for row in ladder:
        places.append(put_bare(book, rows, claims, moved_row(row, places)))
    return trimmed_to(rows, places[-1])
