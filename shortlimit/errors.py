"""The refusals: one class for each kind, all under CodeError."""


class CodeError(ValueError):
    """Any refusal."""


class NoWeights(CodeError):
    """There are more weights than a list of weights may have."""


class BadWeight(CodeError):
    """One of the weights is no weight."""


class BadBound(CodeError):
    """The bound is no bound."""


class NoRoom(CodeError):
    """There are more signs than the room of the bound has places."""


class BadLengths(CodeError):
    """The lengths are no lengths, or no words of them fit into the room."""


class BadWords(CodeError):
    """The words are no words, or one of them begins another one."""


class BadBits(CodeError):
    """The bits are no bits, or cannot be read as words."""


class NoSign(CodeError):
    """Something in a row of signs is no number of a sign."""
