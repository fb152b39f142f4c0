"""What the rows of a ladder stand on, which of them are needed, and these alone."""

from sparecut.ladders import check_ladder


def book_numbers_under(row, numbers_ahead):
    """A rising list of the book's numbers on which a row stands, told those of the rows ahead of it."""
    if row[0] == "book":
        return [row[1]]
    return sorted(set(numbers_ahead[row[1]] + numbers_ahead[row[2]]))


def stands_on(book, ladder):
    """For each row a rising list of the numbers of the book's claims on which it stands."""
    check_ladder(book, ladder)
    told = []
    for row in ladder:
        told.append(book_numbers_under(row, told))
    return told


def rows_under(ladder, last):
    """The numbers of the row last and of all rows on which it stands, rising."""
    found = {last: True}
    # A cut's rows are ahead of it, so one way back through the rows meets all.
    for number in reversed(range(last + 1)):
        row = ladder[number]
        if number in found and row[0] == "cut":
            found[row[1]] = True
            found[row[2]] = True
    return sorted(found)


def moved_row(row, places):
    """The row with the numbers of its rows turned into those at their places."""
    if row[0] == "book":
        return row
    return ("cut", places[row[1]], places[row[2]], row[3])


def trimmed_to(ladder, last):
    """The ladder of the row last and all on which it stands, in order."""
    rows = []
    places = {}
    for number in rows_under(ladder, last):
        places[number] = len(rows)
        rows.append(moved_row(ladder[number], places))
    return rows


def needed(book, ladder):
    """The numbers of the last row and of all rows on which it stands, rising."""
    check_ladder(book, ladder)
    return rows_under(ladder, len(ladder) - 1)


def trimmed(book, ladder):
    """The ladder of the needed rows alone, in order."""
    check_ladder(book, ladder)
    return trimmed_to(ladder, len(ladder) - 1)
