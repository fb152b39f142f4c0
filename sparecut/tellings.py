"""Tellings: ladders told by their claims alone, looked at anew, made whole and spared."""

from sparecut.anew import cut_off, put_row
from sparecut.errors import NoTelling
from sparecut.force import forced

MOST_TOLD = 12


def opposites(claim):
    """A list of the opposites of the claim's says."""
    return [-say for say in claim]


def follows_by_force(claims, claim):
    """Whether the claims fall where the opposites of the claim's says are held."""
    return forced(claims, opposites(claim))[0] == "falls"


def wrong_at(book, telling):
    """The number of the first claim that doesn't follow by force, None where all do."""
    for number, claim in enumerate(telling):
        if not follows_by_force(book + tuple(telling[:number]), claim):
            return number
    return None


def check_telling(book, telling):
    """Refuses with NoTelling a list of claims that is no telling by the book."""
    if not 1 <= len(telling) <= MOST_TOLD or wrong_at(book, telling) is not None:
        raise NoTelling("the list of claims is no telling by the book")


def put_told(book, rows, claims, places, claim):
    """The number of a row as wide as the claim, which follows by force from the rows at the places; put are its cuts.

    From the fall on, step by step back, what a step forced is cut off by the claim that forced it: so what is left
    has opposites of what was held ahead of that step alone, and at last opposites of what was held at first.
    """
    ahead = tuple([claims[place] for place in places])
    # Wider rows force all that the claims of the telling do, or fall sooner.
    told = forced(ahead, opposites(claim))
    place = places[told[2]]
    for number, say in reversed(told[1]):
        if -say in claims[place]:
            place = put_row(book, rows, claims, cut_off(place, places[number], -say))
    return place


def made_whole(book, telling):
    """(ladder, numbers): for each claim of the telling a row of the ladder as wide, the last one's the last row."""
    check_telling(book, telling)
    rows = [("book", number) for number in range(len(book))]
    claims = list(book)
    places = list(range(len(book)))
    for claim in telling:
        places.append(put_told(book, rows, claims, places, claim))
    # Where the last claim follows without a cut, its row may be one ahead of others.
    if places[-1] != len(rows) - 1:
        places[-1] = put_row(book, rows, claims, rows[places[-1]])
    return rows, places[len(book):]


def spared(book, telling):
    """A part of the telling that is one still, with its last claim, none of whose other claims can be left out."""
    check_telling(book, telling)
    left = list(telling)
    # From behind: whatever needs a claim has been left out already, if it can be, when its own turn comes.
    for number in reversed(range(len(telling) - 1)):
        shorter = left[:number] + left[number + 1:]
        if wrong_at(book, shorter) is None:
            left = shorter
    return left
