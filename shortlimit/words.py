"""Words of given lengths, none of which begins another one."""

from shortlimit.checks import MOST_BITS
from shortlimit.counts import counted, places, room
from shortlimit.errors import BadLengths


def _check_sum(lengths):
    if counted(lengths, MOST_BITS) > room(MOST_BITS):
        raise BadLengths("these lengths take more places than there are")


def _word_from(first, length):
    # All words at a word's places begin with it, so those of the first place are enough.
    return f"{first:b}".zfill(MOST_BITS)[:length]


def words_by_lengths(lengths):
    """Give each sign a word of its length, shorter ones ahead, with no place between."""
    _check_sum(lengths)
    words = [""] * len(lengths)
    first = 0
    for length, sign in sorted([(length, sign) for sign, length in enumerate(lengths)]):
        # Shorter words take more places, so the first is always one where a word can begin.
        words[sign] = _word_from(first, length)
        first += places(length, MOST_BITS)
    return words


def words_in_order(lengths):
    """Give each sign a word of its length, in the order of the signs."""
    _check_sum(lengths)
    words = []
    behind = 0
    for length in lengths:
        size = places(length, MOST_BITS)
        # A word's places begin at a multiple of their count; those skipped stay empty.
        first = (behind + size - 1) // size * size
        behind = first + size
        if behind > room(MOST_BITS):
            raise BadLengths("no places are left for a word of this length")
        words.append(_word_from(first, length))
    return words
