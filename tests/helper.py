"""What the tests share: wrong things, and the look at a refusal."""

from shortlimit.errors import CodeError

# Things that are no number at all, whatever its limits; 1.0 and 2.0 are not whole ones by kind.
NO_NUMBERS = (
    True, False, None, "", "1", "12", "one", b"1", 1.0, 2.0, 0.5,
    [], [1], (), (1,), {}, {1: 1}, object(), int,
)


def refusal(call, *args):
    """The very class of the refusal by which a call ends, or None where it tells something."""
    try:
        call(*args)
    except CodeError as e:
        return type(e)
    return None


def begins_another(words):
    """Whether some word begins another one, or is told twice."""
    return any(
        other.startswith(word)
        for at, word in enumerate(words)
        for to, other in enumerate(words)
        if at != to
    )
