"""Cuts: a third claim out of two."""

from sparecut.claims import MOST_THINGS, has_opposites, is_whole
from sparecut.errors import NoCut


def can_meet(one, other, k):
    """Whether k is a thing that the claim one says is so, and the claim other that it isn't."""
    return is_whole(k) and 1 <= k <= MOST_THINGS and k in one and -k in other


def cut_or_none(one, other, k):
    """The claim that comes where one and other are cut by k, None where there is no cut."""
    if not can_meet(one, other, k):
        return None
    says = [say for say in one if say != k] + [say for say in other if say != -k]
    if has_opposites(says):
        return None
    return tuple(sorted(set(says)))


def cut(one, other, k):
    """The claim that comes where the claims one and other are cut by k; NoCut where there is none."""
    claim = cut_or_none(one, other, k)
    if claim is None:
        raise NoCut(f"{one} and {other} can't be cut by {k}")
    return claim
