"""Rows of packets of signs, and the lengths of least weighted sum that they give."""

from shortlimit.counts import check_room


def _by_weight(packets):
    # Sorting keeps the order of equal weights: that in which the packets are handed in.
    return sorted(packets, key=lambda packet: packet[0])


def _joined(one, other):
    return one[0] + other[0], tuple(sorted(one[1] + other[1]))


def _pairs(row):
    # Taken side by side, the two halves of the row end together, so an odd last one is left out.
    return [_joined(one, other) for one, other in zip(row[::2], row[1::2])]


def packet_rows(weights, bound):
    """Tell as many rows of packets as the bound says, each one by weight."""
    check_room(weights, bound)
    own = [(weight, (sign,)) for sign, weight in enumerate(weights)]
    rows = [_by_weight(own)]
    for _ in range(bound - 1):
        rows.append(_by_weight(own + _pairs(rows[-1])))
    return rows


def free_lengths(weights, bound):
    """Tell a length for each sign, up to the bound, so that the weighted sum is the least."""
    last = packet_rows(weights, bound)[-1]
    many = len(weights)
    if many < 2:
        # A word has one bit or more, though nothing needs to be told from a sign alone.
        return [1] * many
    lengths = [0] * many
    for _, signs in last[:2 * many - 2]:
        for sign in signs:
            lengths[sign] += 1
    return lengths
