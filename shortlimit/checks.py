"""The limits of what is handed in, and the checks that refuse what is beyond them."""

from shortlimit.errors import BadBound, BadLengths, BadWeight, NoWeights

MOST_SIGNS = 24
MOST_WEIGHT = 1000000000000
MOST_BITS = 12


def is_number(thing, least, most):
    """Tell whether a thing is a whole number from the least to the most."""
    # Python takes True and False for integers; the document does not.
    if isinstance(thing, bool) or not isinstance(thing, int):
        return False
    return least <= thing <= most


def check_bound(bound):
    """Refuse with BadBound what is no bound."""
    if not is_number(bound, 1, MOST_BITS):
        raise BadBound(f"a bound is a number from 1 to {MOST_BITS}")


def check_weights(weights):
    """Refuse with NoWeights too many weights, with BadWeight a thing that is no weight."""
    if len(weights) > MOST_SIGNS:
        raise NoWeights(f"there are at most {MOST_SIGNS} weights")
    for weight in weights:
        if not is_number(weight, 0, MOST_WEIGHT):
            raise BadWeight(f"a weight is a number from 0 to {MOST_WEIGHT}")


def check_lengths(lengths, bound):
    """Refuse with BadLengths what are no lengths up to the bound, itself checked before."""
    if len(lengths) > MOST_SIGNS:
        raise BadLengths(f"there are at most {MOST_SIGNS} lengths")
    for length in lengths:
        if not is_number(length, 1, bound):
            raise BadLengths(f"a length is a number from 1 to {bound}")
