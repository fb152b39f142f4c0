"""Rows of a ladder done anew, where wider claims stand for those of the elder rows."""

from sparecut.ladders import claim_of_row


def put_row(book, rows, claims, row):
    """Puts the row behind the rows, and its claim behind theirs; its number."""
    claims.append(claim_of_row(book, claims, row))
    rows.append(row)
    return len(rows) - 1


def lacking_row(claims, row):
    """The number of the first one of a cut's two rows that lacks the say to be cut off, None where neither does."""
    if row[0] == "book":
        return None
    if row[3] not in claims[row[1]]:
        return row[1]
    if -row[3] not in claims[row[2]]:
        return row[2]
    return None


def cut_off(place, other, say):
    """The row that cuts the say off the row at this place, by the row other that has its opposite."""
    if say > 0:
        return ("cut", place, other, say)
    return ("cut", other, place, -say)
