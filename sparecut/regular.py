"""Regular trees: on no way down a thing is cut twice."""

from sparecut.cuts import cut_or_none


def is_regular_under(tree, things):
    """Whether on no way down the tree a thing is cut twice, or one of these things, which are cut above it."""
    if tree[0] == "book":
        return True
    if tree[3] in things:
        return False
    things_cut = things + [tree[3]]
    return is_regular_under(tree[1], things_cut) and is_regular_under(tree[2], things_cut)


def is_regular(tree):
    """Whether the tree is regular."""
    return is_regular_under(tree, [])


def joined(one, other, k):
    """(tree, claim) out of two such pairs: cut by k, or that one of both that lacks what is to be cut off."""
    if k not in one[1]:
        return one
    if -k not in other[1]:
        return other
    return ("cut", one[0], other[0], k), cut_or_none(one[1], other[1], k)


def regular_under(book, tree, says):
    """(tree, claim): a regular tree that cuts no thing of the says; its claim has tree's says and these alone.

    The says are those that are cut off above, on the way down to the tree. A second cut by one of their things
    is left out: that part of it stands for it which has the say, as that one is cut off further up anyway.
    The claim of a tree on this way never has the opposite of one of the says, so all can be cut.
    """
    if tree[0] == "book":
        return tree, book[tree[1]]
    k = tree[3]
    if k in says:
        return regular_under(book, tree[1], says)
    if -k in says:
        return regular_under(book, tree[2], says)
    one = regular_under(book, tree[1], says + [k])
    other = regular_under(book, tree[2], says + [-k])
    return joined(one, other, k)


def made_regular(book, tree):
    """A regular tree whose claim is as wide as the tree's, with no more pieces."""
    return regular_under(book, tree, [])[0]
