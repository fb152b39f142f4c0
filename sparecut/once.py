"""Each claim of a ladder told once."""

from sparecut.ladders import claims_of
from sparecut.standing import moved_row, trimmed_to


def told_once(book, ladder):
    """The ladder in which the first row with a claim stands for all rows with it, trimmed."""
    claims = claims_of(book, ladder)
    kept = []
    first_with = {}
    places = []
    for row, claim in zip(ladder, claims):
        if claim not in first_with:
            first_with[claim] = len(kept)
            kept.append(moved_row(row, places))
        places.append(first_with[claim])
    # The row that stands for the last one needn't be the last of those that are kept.
    return trimmed_to(kept, places[-1])
