"""Chains of ladders, each shorter than the one ahead of it."""

from sparecut.bare import made_bare
from sparecut.claims import is_wide
from sparecut.ladders import check_ladder, claims_of, how_many_cuts, is_ladder


def is_shorter(book, one, other):
    """Whether the ladder other has fewer rows than one, or as many and fewer cuts, and no more cuts."""
    cuts = how_many_cuts(book, one)
    other_cuts = how_many_cuts(book, other)
    if other_cuts > cuts:
        return False
    return len(other) < len(one) or (len(other) == len(one) and other_cuts < cuts)


def may_be_next(book, one, other):
    """Whether in a chain the ladder other may stand right behind one."""
    return is_shorter(book, one, other) and is_wide(claims_of(book, other)[-1], claims_of(book, one)[-1])


def is_chain(book, ladder, thing):
    """Whether the list is a chain from the ladder."""
    check_ladder(book, ladder)
    # Only of ladders is it sure that no truth in them passes for a number.
    if not all(is_ladder(book, one) for one in thing):
        return False
    if thing[:1] != [ladder]:
        return False
    return all(may_be_next(book, one, other) for one, other in zip(thing, thing[1:]))


def shortened(book, ladder):
    """A chain from the ladder whose last one is bare."""
    bare = made_bare(book, ladder)
    # Made bare, a ladder loses a row or a cut, or it was bare and stays as it is.
    if bare == ladder:
        return [bare]
    return [list(ladder), bare]
