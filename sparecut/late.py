"""Cuts by single says put off to the end of a ladder, and done once each."""

from sparecut.anew import cut_off, lacking_row, put_row
from sparecut.claims import is_whole
from sparecut.ladders import claims_of
from sparecut.standing import moved_row, trimmed_to


def is_single(claim):
    """Whether the claim has one say alone."""
    return len(claim) == 1


def has_single_part(claims, row):
    """Whether the row is a cut of which one part at least has one say alone."""
    return row[0] == "cut" and (is_single(claims[row[1]]) or is_single(claims[row[2]]))


def is_late_cut(claims, ladder, number, first):
    """Whether the row, from first on, is a cut by a single say ahead of first with the row that is due."""
    row = ladder[number]
    if row[0] == "book":
        return False
    for single, other in ((row[1], row[2]), (row[2], row[1])):
        if single < first and is_single(claims[single]) and (number == first or other == number - 1):
            return True
    return False


def is_put_off(book, ladder, first):
    """Whether the ladder is put off from the number first on."""
    claims = claims_of(book, ladder)
    if not is_whole(first) or not 1 <= first <= len(ladder):
        return False
    if any(has_single_part(claims, row) for row in ladder[:first]):
        return False
    if not all(is_late_cut(claims, ladder, number, first) for number in range(first, len(ladder))):
        return False
    things = [row[3] for row in ladder[first:]]
    return len(set(things)) == len(things)


def left_single(claims, singles, row):
    """The number of the row that stands for a cut by a single say, which is put down in singles; None for others."""
    one, other, k = row[1], row[2], row[3]
    if is_single(claims[one]):
        singles.setdefault(k, one)
        return other
    if is_single(claims[other]):
        singles.setdefault(-k, other)
        return one
    return None


def told_single(claims, singles, row):
    """The number of a row in singles whose say the cut would have, None where there is none.

    Only what is put down in singles can bring opposite says together: so wherever none is found there is a cut.
    """
    for say in claims[row[1]] + claims[row[2]]:
        if abs(say) != row[3] and say in singles:
            return singles[say]
    return None


def put_without_singles(book, rows, claims, singles, row):
    """The number of the row that stands for this one, where nothing is cut by single says.

    Its claim has the elder row's says and opposites of the says in singles alone.
    """
    if row[0] == "book":
        return put_row(book, rows, claims, row)
    place = lacking_row(claims, row)
    if place is None:
        place = left_single(claims, singles, row)
    if place is None:
        place = told_single(claims, singles, row)
    if place is None:
        place = put_row(book, rows, claims, row)
    return place


def put_off(book, ladder):
    """(ladder, first): one put off from first on whose last claim is as wide, with no more rows and no more cuts."""
    elder_claims = claims_of(book, ladder)
    rows, claims, places, singles = [], [], [], {}
    for row in ladder:
        places.append(put_without_singles(book, rows, claims, singles, moved_row(row, places)))
    place = places[-1]
    # For each of these says a cut at least was left out, so that they bring no more cuts than there were.
    late_says = [say for say in claims[place] if say not in elder_claims[-1]]
    for say in late_says:
        place = put_row(book, rows, claims, cut_off(place, singles[-say], say))
    told = trimmed_to(rows, place)
    return told, len(told) - len(late_says)
