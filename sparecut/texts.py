"""Claims, books and ladders as texts, and texts read."""

from sparecut.claims import MOST_CLAIMS, MOST_THINGS, is_claim
from sparecut.errors import NoText
from sparecut.ladders import MOST_ROWS

NO_SAYS = "none"
STROKE = "/"
BETWEEN = " / "
# No number that is written in a book or a ladder has more figures.
MOST_FIGURES = 3


def show_claim(claim):
    """The claim as a text."""
    if not claim:
        return NO_SAYS
    return " ".join([str(say) for say in claim])


def show_book(book):
    """The book as a text."""
    shown = [show_claim(claim) for claim in book]
    return BETWEEN.join(shown)


def show_row(row):
    """The row of a ladder as a text."""
    return " ".join([row[0]] + [str(number) for number in row[1:]])


def show_ladder(ladder):
    """The ladder as a text."""
    shown = [show_row(row) for row in ladder]
    return BETWEEN.join(shown)


def words_of(text):
    """The words of a text, parted at each blank: where blanks stand side by side, words without signs."""
    return text.split(" ")


def word_at(words, at):
    """The word with this number, None behind the last one."""
    return words[at] if at < len(words) else None


def number_or_none(word):
    """The whole number that the word writes, None where it writes none."""
    figures = word.removeprefix("-")
    if not figures.isascii() or not figures.isdigit() or len(figures) > MOST_FIGURES:
        return None
    number = int(word)
    # Neither -0 nor a 0 ahead of other figures is how a number is written.
    return number if str(number) == word else None


def claim_from(words, at):
    """(claim, behind): the claim that the words write from the place at on, and the place behind it; NoText."""
    if word_at(words, at) == NO_SAYS:
        return (), at + 1
    claim = ()
    while at < len(words) and is_claim(claim + (number_or_none(words[at]),)):
        claim = claim + (number_or_none(words[at]),)
        at += 1
    if not claim:
        raise NoText(at)
    return claim, at


def behind_stroke(words, at, many, most):
    """The place behind the stroke at this place; NoText where there is none, or where as many as may be are ahead."""
    if word_at(words, at) != STROKE or many >= most:
        raise NoText(at)
    return at + 1


def book_from(words, at):
    """The book that the words write from the place at on; NoText where they write none."""
    claim, at = claim_from(words, at)
    claims = [claim]
    while at < len(words):
        claim, at = claim_from(words, behind_stroke(words, at, len(claims), MOST_CLAIMS))
        claims.append(claim)
    return tuple(claims)


def number_from(words, at, least, most):
    """The number, from least to most, that the word at this place writes; NoText where it writes none such."""
    if at == len(words):
        raise NoText(at)
    number = number_or_none(words[at])
    if number is None or not least <= number <= most:
        raise NoText(at)
    return number


def row_from(words, at, ahead):
    """(row, behind): the row that the words write from the place at on, with so many rows ahead; NoText."""
    word = word_at(words, at)
    if word == "book":
        return ("book", number_from(words, at + 1, 0, MOST_CLAIMS - 1)), at + 2
    # Ahead of the first row there is nothing to be cut, however the row goes on.
    if word == "cut" and ahead > 0:
        one = number_from(words, at + 1, 0, ahead - 1)
        other = number_from(words, at + 2, 0, ahead - 1)
        return ("cut", one, other, number_from(words, at + 3, 1, MOST_THINGS)), at + 4
    raise NoText(at)


def ladder_from(words, at):
    """The ladder that the words write from the place at on; NoText where they write none."""
    row, at = row_from(words, at, 0)
    rows = [row]
    while at < len(words):
        row, at = row_from(words, behind_stroke(words, at, len(rows), MOST_ROWS), len(rows))
        rows.append(row)
    return rows


def read_book(text):
    """The book that the text writes; NoText where it writes none."""
    return book_from(words_of(text), 0)


def read_ladder(text):
    """The ladder that the text writes, a list of rows; NoText where it writes none."""
    return ladder_from(words_of(text), 0)
