"""Rows of signs written as bits, and bits read as signs."""

from shortlimit.checks import check_row, check_words, is_bits
from shortlimit.errors import BadBits


class Reader:
    """Takes bits one at a time, and tells the signs whose words they are."""

    def __init__(self, words):
        check_words(words)
        # A table of its own, so that a change of the list of words changes nothing here.
        self._signs = {word: sign for sign, word in enumerate(words)}
        self._held = ""
        self._done = []

    def take(self, bit):
        """Tell the sign whose word is whole by this bit, else None."""
        if not is_bits(bit) or len(bit) != 1:
            raise BadBits("a bit is the text 0 or the text 1")
        held = self._held + bit
        if held in self._signs:
            sign = self._signs[held]
            self._held = ""
            self._done.append(sign)
            return sign
        if not any([word.startswith(held) for word in self._signs]):
            raise BadBits("no word goes on so")
        self._held = held
        return None

    def held(self):
        """Tell the bits taken since the last whole word."""
        return self._held

    def done(self):
        """Tell the signs that were whole, in turn."""
        return list(self._done)

    def again(self):
        """Go back to the begin."""
        self._held = ""
        self._done = []


def written(words, row):
    """Write a row of signs as their words, one behind the other."""
    check_words(words)
    check_row(row, len(words))
    return "".join([words[sign] for sign in row])


def read(words, bits):
    """Read bits as the signs in turn whose words they are."""
    reader = Reader(words)
    if not is_bits(bits):
        raise BadBits("bits are a text of 0 and 1")
    for bit in bits:
        reader.take(bit)
    if reader.held() != "":
        raise BadBits("the bits end amid a word")
    return reader.done()
