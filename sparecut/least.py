"""The trees of the fewest cuts and of the least heights, by books of few things."""

from sparecut.claims import is_wide
from sparecut.cuts import cut_or_none
from sparecut.errors import TooGreat, TooMany
from sparecut.trees import MOST_PIECES, MOST_WITHIN, claim_of_tree, cuts_of_tree

MOST_FEW_THINGS = 4


def check_few_things(book):
    """Refuses with TooMany a book that speaks of other things than 1 to 4."""
    if any(abs(say) > MOST_FEW_THINGS for claim in book for say in claim):
        raise TooMany(f"the book speaks of other things than 1 to {MOST_FEW_THINGS}")


def ways_to_cut(one, other):
    """A list of (k, claim), each thing by which one and other are cut, in this order, and what comes."""
    pairs = [(k, cut_or_none(one, other, k)) for k in one if k > 0]
    return [pair for pair in pairs if pair[1] is not None]


def cuts_and_height(one, other):
    """(cuts, height) of a cut of two trees of which the same is told."""
    return (one[0] + other[0] + 1, 1 + max(one[1], other[1]))


def height_above(one, other):
    """The height of a cut of two trees with these heights."""
    return 1 + max(one, other)


def least_waiting(worths, done):
    """A claim of the least worth that isn't done yet."""
    return min([claim for claim in worths if claim not in done], key=lambda claim: worths[claim])


def put_cuts(worths, trees, above, one, other):
    """Puts down what comes where one and other are cut, wherever that is worth less than what is known."""
    for k, claim in ways_to_cut(one, other):
        worth = above(worths[one], worths[other])
        if claim not in worths or worth < worths[claim]:
            worths[claim] = worth
            trees[claim] = ("cut", one, other, k)


def least_trees(book, start, above):
    """(worths, trees) by the claims that trees tell: the least worth, and the last step of a tree of that worth.

    A claim of the book is worth start, a cut what above tells of its two parts. A cut is worth more than each of
    its parts: so what is worth least of all that waits can't come to be worth less any more.
    """
    check_few_things(book)
    worths = {claim: start for claim in book}
    trees = {claim: ("book", number) for number, claim in enumerate(book)}
    done = {}
    while len(done) < len(worths):
        claim = least_waiting(worths, done)
        done[claim] = True
        for other in done:
            put_cuts(worths, trees, above, claim, other)
            put_cuts(worths, trees, above, other, claim)
    return worths, trees


def least_by_cuts(book):
    """(worths, trees), each worth (cuts, height): of the trees of the fewest cuts the least height."""
    return least_trees(book, (0, 0), cuts_and_height)


def least_cuts(book):
    """A dict from each claim that a tree tells to the fewest cuts of such a tree."""
    worths = least_by_cuts(book)[0]
    return {claim: worths[claim][0] for claim in worths}


def least_heights(book):
    """A dict from each claim that a tree tells to the least height of such a tree."""
    return least_trees(book, 0, height_above)[0]


def tree_by(trees, claim):
    """The tree of the claim, put together of the last steps."""
    step = trees[claim]
    if step[0] == "book":
        return step
    return ("cut", tree_by(trees, step[1]), tree_by(trees, step[2]), step[3])


def least_tree(book, claim):
    """A tree of the fewest cuts that tells the claim, None where none does; TooGreat where it can't be a tree."""
    worths, trees = least_by_cuts(book)
    if claim not in worths:
        return None
    cuts, height = worths[claim]
    if 2 * cuts + 1 > MOST_PIECES or height + 1 > MOST_WITHIN:
        raise TooGreat("the trees of the fewest cuts are greater than a tree may be")
    return tree_by(trees, claim)


def to_spare(book, tree):
    """How many cuts can be spared of the tree at most."""
    fewest_cuts = least_cuts(book)
    claim = claim_of_tree(book, tree)
    return cuts_of_tree(tree) - min([fewest_cuts[other] for other in fewest_cuts if is_wide(other, claim)])
