"""A desk that is told rows of words and answers each with a text."""

from sparecut.backing import pieces_of
from sparecut.bare import made_bare
from sparecut.cores import core
from sparecut.errors import NoBack, NoRow, NoText
from sparecut.fewest import floor_of
from sparecut.ladders import check_ladder, claims_of, heights, how_many_cuts
from sparecut.late import put_off
from sparecut.once import told_once
from sparecut.settings import follows
from sparecut.standing import trimmed
from sparecut.texts import book_from, claim_from, ladder_from, show_claim, show_ladder, words_of


def told_claim(book, ladder):
    """What the ladder tells."""
    return show_claim(claims_of(book, ladder)[-1])


def shown(book, ladder):
    """The ladder as a text."""
    return show_ladder(ladder)


def many_rows(book, ladder):
    """How many rows the ladder has."""
    return str(len(ladder))


def many_cuts(book, ladder):
    """How many cuts the ladder has."""
    return str(how_many_cuts(book, ladder))


def height_of_last(book, ladder):
    """The height of the ladder's last row."""
    return str(heights(book, ladder)[-1])


def many_pieces(book, ladder):
    """How many pieces the ladder would have, put back into a tree."""
    return str(pieces_of(book, ladder))


def floor_under(book, ladder):
    """The floor of the claim that the ladder tells."""
    return str(floor_of(book, claims_of(book, ladder)[-1]))


def with_needed_alone(book, ladder):
    """The ladder trimmed."""
    return trimmed(book, ladder)


def with_claims_once(book, ladder):
    """The ladder with each claim told once."""
    return told_once(book, ladder)


def with_nothing_spare(book, ladder):
    """The ladder made bare."""
    return made_bare(book, ladder)


def with_singles_late(book, ladder):
    """The ladder with its single says put off."""
    return put_off(book, ladder)[0]


def whether_follows(book, claim):
    """Whether the claim follows from the book, as a word."""
    return "yes" if follows(book, claim) == ("follows",) else "no"


def numbers_of_core(book, claim):
    """The numbers of a core for the claim, or a word that there is none."""
    told = core(book, claim)
    if told[0] == "not":
        return "no"
    return " ".join([str(number) for number in told[1]])


OF_LADDERS = {
    "claim": told_claim, "show": shown, "rows": many_rows, "cuts": many_cuts, "height": height_of_last,
    "pieces": many_pieces, "floor": floor_under,
}
OF_CLAIMS = {"follows": whether_follows, "core": numbers_of_core}
SHORTER = {
    "trim": with_needed_alone, "once": with_claims_once, "bare": with_nothing_spare, "off": with_singles_late,
}


def check_there(thing):
    """Refuses with NoRow a row whose book or ladder isn't there."""
    if thing is None:
        raise NoRow("the book or the ladder that the row needs isn't there")


def claim_in_row(words):
    """The claim that the words behind the first one write; NoRow where they write none."""
    try:
        claim, behind = claim_from(words, 1)
    except NoText:
        raise NoRow("the row writes no claim") from None
    if behind < len(words):
        raise NoRow("the row writes more than a claim")
    return claim


def ladder_in_row(book, words):
    """The ladder by the book that the words behind the first one write."""
    check_there(book)
    ladder = ladder_from(words, 1)
    check_ladder(book, ladder)
    return ladder


def shorter_by(word, book, ladder):
    """The shorter ladder that the word asks for."""
    check_there(ladder)
    shorten = SHORTER[word]
    return shorten(book, ladder)


def turned(book, ladder, words):
    """(book, ladder) from now on, None where the words are no row that turns them."""
    if words[0] == "book" and len(words) > 1:
        return book_from(words, 1), None
    if words[0] == "ladder" and len(words) > 1:
        return book, ladder_in_row(book, words)
    if words[0] in SHORTER and len(words) == 1:
        return book, shorter_by(words[0], book, ladder)
    return None


def answered(book, ladder, words):
    """The answer to a row that turns nothing; NoRow where the words are none."""
    if words[0] in OF_LADDERS and len(words) == 1:
        check_there(ladder)
        tell = OF_LADDERS[words[0]]
        return tell(book, ladder)
    if words[0] in OF_CLAIMS:
        claim = claim_in_row(words)
        check_there(book)
        tell = OF_CLAIMS[words[0]]
        return tell(book, claim)
    raise NoRow("the row is none that a desk can answer")


class Desk:
    """A book and a ladder by it, and what they were ahead of each turn."""

    def __init__(self):
        self.book = None
        self.ladder = None
        self.turns = []

    def say(self, row):
        """The answer to the row; what is refused changes nothing."""
        words = words_of(row)
        if words == ["back"]:
            return self.go_back()
        state = turned(self.book, self.ladder, words)
        if state is None:
            return answered(self.book, self.ladder, words)
        self.turns.append((self.book, self.ladder))
        self.book, self.ladder = state
        return "ok"

    def go_back(self):
        """Makes all be as it was ahead of the last turn that isn't gone back behind."""
        if not self.turns:
            raise NoBack("there is nothing to go back behind")
        self.book, self.ladder = self.turns.pop()
        return "ok"
