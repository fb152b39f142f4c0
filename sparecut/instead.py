"""Another row instead of a row, and all behind it done anew."""

from sparecut.anew import lacking_row, put_row
from sparecut.claims import is_wide
from sparecut.errors import NoInstead
from sparecut.ladders import claims_of, is_number_of
from sparecut.standing import moved_row, rows_under, trimmed_to


def may_stand_instead(claims, old, other):
    """Whether old is the number of a row, and other that of one ahead of it whose claim is as wide."""
    if not is_number_of(old, len(claims)) or not is_number_of(other, old):
        return False
    return is_wide(claims[other], claims[old])


def put_anew(book, rows, claims, row):
    """The number of the row that stands for this one: one of its two, or it itself, put behind the rows."""
    place = lacking_row(claims, row)
    if place is None:
        return put_row(book, rows, claims, row)
    return place


def put_instead(book, ladder, old, other):
    """(ladder, places), where the row other stands instead of the row old; NoInstead where it may not."""
    if not may_stand_instead(claims_of(book, ladder), old, other):
        raise NoInstead("only a row ahead of a row, whose claim is as wide, may stand instead of it")
    rows, claims, stands = [], [], []
    for number, row in enumerate(ladder):
        if number == old:
            stands.append(stands[other])
        else:
            stands.append(put_anew(book, rows, claims, moved_row(row, stands)))
    places = {place: at for at, place in enumerate(rows_under(rows, stands[-1]))}
    return trimmed_to(rows, stands[-1]), [places.get(place) for place in stands]
