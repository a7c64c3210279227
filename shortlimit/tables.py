"""The table of least weighted sums of words in order, and the lengths that it gives."""

from shortlimit.counts import check_room


def _parted(table, first, middle, last, depth):
    """Tell the values of both runs together, or None where one of them has none."""
    ahead = table[(first, middle, depth)]
    behind = table[(middle, last, depth)]
    if ahead is None or behind is None:
        return None
    return ahead + behind


def _best_part(table, first, last, depth):
    """Tell the least sum of both values at this depth, and the number behind the first run."""
    ways = [(_parted(table, first, middle, last, depth), middle) for middle in range(first + 1, last)]
    # Of equal sums the least number is taken, so the first run has as few signs as can be.
    return min([way for way in ways if way[0] is not None])


def _least(weights, table, first, last, depth):
    if last - first == 1:
        return 0
    if last - first > (1 << depth):
        return None
    least, _ = _best_part(table, first, last, depth - 1)
    return sum(weights[first:last]) + least


def least_table(weights, bound):
    """Tell the least weighted sum in order for each run of signs and each depth."""
    check_room(weights, bound)
    table = {}
    many = len(weights)
    # A value is made of those of the depth one less, so depths come one behind the other.
    for depth in range(bound + 1):
        for first in range(many):
            for last in range(first + 1, many + 1):
                table[(first, last, depth)] = _least(weights, table, first, last, depth)
    return table


def _run_lengths(table, first, last, depth):
    if last - first == 1:
        return [0]
    _, middle = _best_part(table, first, last, depth - 1)
    ahead = _run_lengths(table, first, middle, depth - 1)
    behind = _run_lengths(table, middle, last, depth - 1)
    return [length + 1 for length in ahead + behind]


def ordered_lengths(weights, bound):
    """Tell a length for each sign so that the weighted sum of words in order is the least."""
    table = least_table(weights, bound)
    many = len(weights)
    if many < 2:
        # A word has one bit or more, though the run of a sign alone is never parted.
        return [1] * many
    return _run_lengths(table, 0, many, bound)
