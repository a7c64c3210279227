"""How many places a room has, lengths take, and signs are barred from."""

from shortlimit.checks import check_bound, check_lengths, check_weights
from shortlimit.errors import NoRoom


def places(length, bound):
    """Tell how many words of bound bits begin with one word of this length."""
    return 1 << (bound - length)


def room(bound):
    """Tell how many words of bound bits there are."""
    check_bound(bound)
    return 1 << bound


def counted(lengths, bound):
    """Tell how many places of the bound's room these lengths take together."""
    check_bound(bound)
    check_lengths(lengths, bound)
    return sum([places(length, bound) for length in lengths])


def barred(weights, bound):
    """Tell None where each sign has a place, else how many signs and places there are."""
    check_weights(weights)
    there = room(bound)
    if len(weights) <= there:
        return None
    return len(weights), there


def check_room(weights, bound):
    """Refuse what barred refuses, and with NoRoom more signs than there are places."""
    without = barred(weights, bound)
    if without is not None:
        many, there = without
        raise NoRoom(f"there are {many} signs, but {there} places")
