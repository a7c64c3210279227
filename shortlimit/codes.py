"""The words of the least weighted sum, and that sum."""

from shortlimit.packets import free_lengths
from shortlimit.tables import ordered_lengths
from shortlimit.words import words_by_lengths, words_in_order


def free_code(weights, bound):
    """Tell a word for each sign, of the free lengths."""
    return words_by_lengths(free_lengths(weights, bound))


def ordered_code(weights, bound):
    """Tell a word for each sign, of the ordered lengths: words rise with the signs."""
    return words_in_order(ordered_lengths(weights, bound))


def weighted(weights, words):
    """Tell each sign's weight times the length of its word, all added."""
    return sum([weight * len(word) for weight, word in zip(weights, words)])
