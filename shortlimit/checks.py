"""The limits of what is handed in, and the checks that refuse what is beyond them."""

from shortlimit.errors import BadBound, BadLengths, BadWeight, BadWords, NoSign, NoWeights

MOST_SIGNS = 24
MOST_WEIGHT = 1000000000000
MOST_BITS = 12


def is_number(thing, least, most):
    """Tell whether a thing is a whole number from the least to the most."""
    # Python takes True and False for integers; the document does not.
    if isinstance(thing, bool) or not isinstance(thing, int):
        return False
    return least <= thing <= most


def is_bits(thing):
    """Tell whether a thing is a text of the bits 0 and 1, perhaps without any."""
    return isinstance(thing, str) and all([bit in "01" for bit in thing])


def check_bound(bound):
    """Refuse with BadBound what is no bound."""
    if not is_number(bound, 1, MOST_BITS):
        raise BadBound(f"a bound is a number from 1 to {MOST_BITS}")


def check_weights(weights):
    """Refuse with NoWeights too many weights, with BadWeight a thing that is no weight."""
    if len(weights) > MOST_SIGNS:
        raise NoWeights(f"there are at most {MOST_SIGNS} weights")
    for weight in weights:
        if not is_number(weight, 0, MOST_WEIGHT):
            raise BadWeight(f"a weight is a number from 0 to {MOST_WEIGHT}")


def check_lengths(lengths, bound):
    """Refuse with BadLengths what are no lengths up to the bound, itself checked before."""
    if len(lengths) > MOST_SIGNS:
        raise BadLengths(f"there are at most {MOST_SIGNS} lengths")
    for length in lengths:
        if not is_number(length, 1, bound):
            raise BadLengths(f"a length is a number from 1 to {bound}")


def check_words(words):
    """Refuse with BadWords what are no words, or words of which one begins another one."""
    if len(words) > MOST_SIGNS:
        raise BadWords(f"there are at most {MOST_SIGNS} words")
    for word in words:
        if not is_bits(word) or not 1 <= len(word) <= MOST_BITS:
            raise BadWords(f"a word is a text of 1 to {MOST_BITS} bits")
    risen = sorted(words)
    # Between a word and those that it begins none else can stand, so neighbours are enough.
    for ahead, word in zip(risen, risen[1:]):
        if word.startswith(ahead):
            raise BadWords("no word begins another one, and none is told twice")


def check_row(row, many):
    """Refuse with NoSign a row with something in it that is no number of so many signs."""
    for sign in row:
        if not is_number(sign, 0, many - 1):
            raise NoSign(f"there are {many} signs, known by their numbers from 0 on")
