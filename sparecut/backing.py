"""Ladders put back into trees, and the rows of trees."""

from sparecut.errors import TooGreat
from sparecut.ladders import check_ladder, heights
from sparecut.trees import MOST_PIECES, MOST_WITHIN


def pieces_of_row(row, pieces_ahead):
    """How many pieces the row's tree has, told those of the rows ahead of it."""
    if row[0] == "book":
        return 1
    return 1 + pieces_ahead[row[1]] + pieces_ahead[row[2]]


def pieces_of(book, ladder):
    """How many pieces the ladder would have, put back into a tree."""
    check_ladder(book, ladder)
    told = []
    for row in ladder:
        told.append(pieces_of_row(row, told))
    return told[-1]


def tree_of_row(row, trees_ahead):
    """The row's tree, told those of the rows ahead of it."""
    if row[0] == "book":
        return row
    return ("cut", trees_ahead[row[1]], trees_ahead[row[2]], row[3])


def tree_of(book, ladder):
    """The ladder put back into a tree; TooGreat where that is no tree for its size."""
    # A tree of the height 0 is one within itself.
    if pieces_of(book, ladder) > MOST_PIECES or heights(book, ladder)[-1] + 1 > MOST_WITHIN:
        raise TooGreat("put back, the ladder is greater than a tree may be")
    trees = []
    for row in ladder:
        trees.append(tree_of_row(row, trees))
    return trees[-1]


def put_rows(tree, rows, numbers):
    """Puts those of the tree's rows that aren't there yet behind the rows; the number of the tree's own."""
    row = tree
    if tree[0] == "cut":
        one = put_rows(tree[1], rows, numbers)
        other = put_rows(tree[2], rows, numbers)
        # Two cuts are alike just where their rows are, so no tree has to be a key.
        row = ("cut", one, other, tree[3])
    if row not in numbers:
        numbers[row] = len(rows)
        rows.append(row)
    return numbers[row]


def rows_of(tree):
    """The ladder of the tree's unlike pieces, each once, in the order in which they are done first."""
    rows = []
    put_rows(tree, rows, {})
    return rows
