"""What the tests share: wrong things, the look at a refusal, and all there is to try."""

from shortlimit.errors import CodeError

# Things that are no number at all, whatever its limits; 1.0 and 2.0 are not whole ones by kind.
NO_NUMBERS = (
    True, False, None, "", "1", "12", "one", b"1", 1.0, 2.0, 0.5,
    [], [1], (), (1,), {}, {1: 1}, object(), int,
)

# What stands at the place of a bound or of a weight and is none.
NO_BOUNDS = NO_NUMBERS + (0, 13, -1, -12, 100, 10 ** 30)
NO_WEIGHTS = NO_NUMBERS + (-1, 1000000000001, -1000000000000, 10 ** 30)


def refusal(call, *args):
    """The very class of the refusal by which a call ends, or None where it tells something."""
    try:
        call(*args)
    except CodeError as e:
        return type(e)
    return None


def begins_another(words):
    """Whether some word begins another one, or is told twice."""
    return any(
        other.startswith(word)
        for at, word in enumerate(words)
        for to, other in enumerate(words)
        if at != to
    )


def free_choices(many, bound):
    """All lengths up to the bound of words of which none begins another, by their places."""
    return _choices(many, bound, 2 ** bound)


def _choices(many, bound, left):
    if many == 0:
        return [[]]
    told = []
    for length in range(1, bound + 1):
        size = 2 ** (bound - length)
        if size <= left:
            told.extend([length] + rest for rest in _choices(many - 1, bound, left - size))
    return told


def trees(many, depth):
    """All ways to part a run of signs down to signs alone, none parted more often than the depth.

    Each is a pair of lists: how often each sign's run was parted, and how many signs the first
    run of each parting has, that of the whole run first, then those within the first run.
    """
    if many == 1:
        return [([0], [])]
    if depth == 0:
        return []
    told = []
    for few in range(1, many):
        for ahead, cuts in trees(few, depth - 1):
            for behind, later in trees(many - few, depth - 1):
                told.append(([length + 1 for length in ahead + behind], [few] + cuts + later))
    return told


def weighs(weights, lengths):
    """The weighted sum of some lengths."""
    total = 0
    for sign in range(len(weights)):
        total = total + weights[sign] * lengths[sign]
    return total
