import inspect
import itertools
import unittest

import shortlimit.bits
from shortlimit.bits import Reader, read, written
from shortlimit.codes import free_code, ordered_code
from shortlimit.errors import BadBits, BadWords, NoSign
from tests.helper import NO_NUMBERS, refusal

WORDS = ["10", "0", "111", "110"]
GAPPED = ["00", "010", "111"]
NO_TEXTS = (True, False, None, 0, 1, 10, 1.0, b"0", b"01", [], ["0"], ["0", "1"], (), ("0",), {}, {"0": 1}, object(), str)
NO_BITS = ("2", "a", " ", "-", "\n", "0\n", "1 ", " 0", "012", "0b1", "+1", "O", "l", "\u0661", "\u00b9", "\uff10")
GOOD_LISTS = (
    [], ["0"], ["1"], ["0" * 12], ["1" * 12], ["0", "1"], ["1", "0"], WORDS, GAPPED,
    [f"{at:012b}" for at in range(24)], [f"{at:05b}" for at in range(24)], ["1" * at + "0" for at in range(12)],
)
BAD_LISTS = (
    [""], ["0", ""], ["", "0"], ["0" * 13], ["1", "0" * 13], ["0" * 13, "1"],
    ["0", "0"], ["10", "0", "10"], ["000000000000", "000000000000"],
    ["0", "01"], ["01", "0"], ["1", "00", "10"], ["10", "00", "1"], ["00", "0101", "1", "010"], ["00", "010", "1", "0101"],
    ["0", "1" * 11, "1" * 12], ["1" * 12, "0", "1" * 11], ["0", "10", "11", "1"], ["1", "0", "10", "11"],
    ["0", "0010"], ["01", "1", "00", "0111"],
    [f"{at:012b}" for at in range(25)], [f"{at:05b}" for at in range(25)], [f"{at:05b}" for at in range(30)],
    ["0"] * 25, ["2"] * 25, ["1" * at + "0" for at in range(13)],
)


def bad_lists():
    for words in BAD_LISTS:
        yield list(words)
    for thing in NO_TEXTS + NO_BITS:
        for words in ([thing], [thing, "10", "11"], ["10", thing, "11"], ["10", "11", thing]):
            yield words


def all_bits(most):
    for many in range(most + 1):
        for bits in itertools.product("01", repeat=many):
            yield "".join(bits)


def read_by_trying(words, bits):
    """The row whose words are these bits, by trying each sign; None where there is none."""
    if bits == "":
        return []
    for sign, word in enumerate(words):
        if bits.startswith(word):
            rest = read_by_trying(words, bits[len(word):])
            return None if rest is None else [sign] + rest
    return None


def fed(words, bits):
    reader = Reader(words)
    return reader, [reader.take(bit) for bit in bits]


class Interface(unittest.TestCase):
    def test_functions(self):
        for call, names in ((written, ["words", "row"]), (read, ["words", "bits"])):
            self.assertEqual(list(inspect.signature(call).parameters), names)
            self.assertEqual(call.__module__, "shortlimit.bits")
            self.assertIs(getattr(shortlimit.bits, call.__name__), call)
        self.assertEqual(written(row=[1], words=["0", "1"]), "1")
        self.assertEqual(read(bits="1", words=["0", "1"]), [1])

    def test_reader(self):
        self.assertEqual(Reader.__module__, "shortlimit.bits")
        self.assertEqual(list(inspect.signature(Reader).parameters), ["words"])
        for name, names in (("take", ["bit"]), ("held", []), ("done", []), ("again", [])):
            self.assertIn(name, vars(Reader))
            self.assertEqual(list(inspect.signature(getattr(Reader(words=["0"]), name)).parameters), names)
        self.assertEqual(Reader(words=["0"]).take(bit="0"), 0)


class Words(unittest.TestCase):
    """What written, read and Reader take for words, and what they refuse with BadWords."""

    def test_words(self):
        for words in GOOD_LISTS:
            self.assertIsNone(refusal(written, words, []), words)
            self.assertIsNone(refusal(read, words, ""), words)
            self.assertIsNone(refusal(Reader, words), words)

    def test_no_words(self):
        for words in bad_lists():
            self.assertIs(refusal(written, words, []), BadWords, words)
            self.assertIs(refusal(read, words, ""), BadWords, words)
            self.assertIs(refusal(Reader, words), BadWords, words)

    def test_pairs_of_words(self):
        short = [bits for bits in all_bits(4) if bits]
        for one, other in itertools.product(short, repeat=2):
            bad = one.startswith(other) or other.startswith(one)
            self.assertIs(refusal(Reader, [one, other]), BadWords if bad else None, (one, other))

    def test_bad_words_ahead_of_no_sign(self):
        for words in bad_lists():
            for row in ([0], [1], [-1], [99], [None], ["0"], [True]):
                self.assertIs(refusal(written, words, row), BadWords, (words, row))

    def test_bad_words_ahead_of_bad_bits(self):
        for words in bad_lists():
            for bits in ("0", "1", "01", "2", None, 0, ["0"]):
                self.assertIs(refusal(read, words, bits), BadWords, (words, bits))

    def test_lists_stay_as_they_were(self):
        for words in [*GOOD_LISTS, *BAD_LISTS]:
            before = list(words)
            refusal(written, words, [0])
            refusal(read, words, "01")
            refusal(Reader, words)
            self.assertEqual(words, before)

    def test_a_refused_list_that_is_made_good_is_taken(self):
        words = ["10", "1", "0"]
        self.assertIs(refusal(written, words, [0]), BadWords)
        self.assertIs(refusal(read, words, "0"), BadWords)
        self.assertIs(refusal(Reader, words), BadWords)
        words[1] = "11"
        self.assertEqual(written(words, [2, 1]), "011")
        self.assertEqual(read(words, "011"), [2, 1])
        self.assertEqual(fed(words, "011")[1], [2, None, 1])


class Written(unittest.TestCase):
    def test_rows(self):
        self.assertEqual(written(WORDS, [0]), "10")
        self.assertEqual(written(WORDS, [1, 1, 1]), "000")
        self.assertEqual(written(WORDS, [3, 0, 1, 2, 2]), "110100111111")
        self.assertEqual(written(["0"], [0] * 100), "0" * 100)
        self.assertEqual(written([f"{at:05b}" for at in range(24)], [23, 0]), "1011100000")

    def test_an_empty_row(self):
        for words in GOOD_LISTS:
            self.assertEqual(written(words, []), "")

    def test_the_edges_of_a_sign(self):
        self.assertEqual(written(WORDS, [0, 3]), "10110")
        self.assertIs(refusal(written, WORDS, [4]), NoSign)
        self.assertIs(refusal(written, WORDS, [-1]), NoSign)
        self.assertIs(refusal(written, [], [0]), NoSign)
        self.assertIs(refusal(written, [], [-1]), NoSign)
        self.assertIs(refusal(written, ["0"], [1]), NoSign)

    def test_things_that_are_no_sign_at_each_place(self):
        for thing in NO_NUMBERS + (-1, -4, 4, 5, 24, 10 ** 30, -10 ** 30):
            for row in ([thing], [thing, 1], [1, thing, 2], [0, 1, 2, 3, thing]):
                self.assertIs(refusal(written, WORDS, row), NoSign, row)
                self.assertIs(refusal(written, [], row), NoSign, row)

    def test_rows_stay_as_they_were(self):
        row = [3, 0, 1]
        written(WORDS, row)
        self.assertEqual(row, [3, 0, 1])
        row.append(4)
        self.assertIs(refusal(written, WORDS, row), NoSign)
        self.assertEqual(row, [3, 0, 1, 4])
        row.pop()
        self.assertEqual(written(WORDS, row), "110100")


class Read(unittest.TestCase):
    def test_bits(self):
        self.assertEqual(read(WORDS, "10"), [0])
        self.assertEqual(read(WORDS, "000"), [1, 1, 1])
        self.assertEqual(read(WORDS, "110100111111"), [3, 0, 1, 2, 2])
        self.assertEqual(read(["1" * 12], "1" * 36), [0, 0, 0])

    def test_empty_bits(self):
        for words in GOOD_LISTS:
            self.assertEqual(read(words, ""), [])
            self.assertIs(type(read(words, "")), list)

    def test_what_is_no_text_of_bits(self):
        for bits in NO_TEXTS + NO_BITS + ("0002", "2000", "0020", "000\n", "0 0"):
            for words in ([], ["0"], WORDS):
                self.assertIs(refusal(read, words, bits), BadBits, (words, bits))

    def test_where_no_word_goes_on_so(self):
        self.assertIs(refusal(read, ["0"], "1"), BadBits)
        self.assertIs(refusal(read, ["0"], "001"), BadBits)
        self.assertIs(refusal(read, ["0"], "0100"), BadBits)
        self.assertIs(refusal(read, GAPPED, "10"), BadBits)
        self.assertIs(refusal(read, GAPPED, "011"), BadBits)
        self.assertIs(refusal(read, GAPPED, "00011"), BadBits)
        self.assertIs(refusal(read, [], "0"), BadBits)
        self.assertIs(refusal(read, [], "1"), BadBits)

    def test_an_end_amid_a_word(self):
        self.assertIs(refusal(read, WORDS, "1"), BadBits)
        self.assertIs(refusal(read, WORDS, "11"), BadBits)
        self.assertIs(refusal(read, WORDS, "1011"), BadBits)
        self.assertIs(refusal(read, ["0" * 12], "0" * 11), BadBits)
        self.assertIs(refusal(read, ["0" * 12], "0" * 23), BadBits)

    def test_all_short_bits(self):
        for words in ([], ["0"], ["11"], ["0", "1"], WORDS, GAPPED):
            for bits in all_bits(8):
                row = read_by_trying(words, bits)
                if row is None:
                    self.assertIs(refusal(read, words, bits), BadBits, (words, bits))
                else:
                    self.assertEqual(read(words, bits), row)

    def test_what_is_written_is_read_as_the_same_row(self):
        for many in range(5):
            for row in itertools.product(range(4), repeat=many):
                self.assertEqual(read(WORDS, written(WORDS, list(row))), list(row))
        long = [(at * 7) % 24 for at in range(500)]
        for weights in ([5] * 24, [2 ** at for at in range(24)], [(at * 7919) % 101 for at in range(24)]):
            for bound in (5, 12):
                for words in (free_code(weights, bound), ordered_code(weights, bound)):
                    self.assertEqual(read(words, written(words, long)), long)

    def test_what_is_told_is_the_askers_own(self):
        words = list(WORDS)
        told = read(words, "010")
        words[0] = "x"
        words.clear()
        self.assertEqual(told, [1, 0])
        told.append(7)
        self.assertEqual(read(WORDS, "010"), [1, 0])
        self.assertIsNot(read(WORDS, ""), read(WORDS, ""))


class Take(unittest.TestCase):
    def stands(self, reader, held, done):
        self.assertEqual(reader.held(), held)
        self.assertIs(type(reader.held()), str)
        self.assertEqual(reader.done(), done)
        self.assertIs(type(reader.done()), list)

    def test_at_the_begin(self):
        for words in GOOD_LISTS:
            self.stands(Reader(words), "", [])

    def test_a_word_whole_by_a_bit(self):
        reader = Reader(WORDS)
        told = reader.take("0")
        self.assertEqual(told, 1)
        self.assertIs(type(told), int)
        self.stands(reader, "", [1])

    def test_a_word_not_yet_whole(self):
        reader = Reader(WORDS)
        self.assertIsNone(reader.take("1"))
        self.stands(reader, "1", [])
        self.assertIsNone(reader.take("1"))
        self.stands(reader, "11", [])
        self.assertEqual(reader.take("1"), 2)
        self.stands(reader, "", [2])

    def test_words_in_turn(self):
        reader, told = fed(WORDS, "1101001")
        self.assertEqual(told, [None, None, 3, None, 0, 1, None])
        self.stands(reader, "1", [3, 0, 1])

    def test_the_sign_of_number_nothing(self):
        reader, told = fed(["0", "1"], "00")
        self.assertEqual(told, [0, 0])
        self.stands(reader, "", [0, 0])

    def test_a_word_of_twelve_bits(self):
        reader, told = fed(["0" * 12], "0" * 11)
        self.assertEqual(told, [None] * 11)
        self.stands(reader, "0" * 11, [])
        self.assertEqual(reader.take("0"), 0)
        self.stands(reader, "", [0])

    def test_what_is_no_bit(self):
        for bits, held, done in (("", "", []), ("1", "1", []), ("0", "", [1]), ("0011", "11", [1, 1])):
            reader, _ = fed(WORDS, bits)
            for thing in NO_TEXTS + NO_BITS + ("", "01", "10", "00", "11", "0" * 12):
                self.assertIs(refusal(reader.take, thing), BadBits, thing)
                self.stands(reader, held, done)
            reader.take("0")
            self.stands(reader, "", done + [{"": 1, "1": 0, "11": 3}[held]])

    def test_where_no_word_goes_on_so(self):
        reader = Reader(GAPPED)
        self.assertIsNone(reader.take("1"))
        self.assertIs(refusal(reader.take, "0"), BadBits)
        self.stands(reader, "1", [])
        self.assertIs(refusal(reader.take, "0"), BadBits)
        self.stands(reader, "1", [])
        self.assertIsNone(reader.take("1"))
        self.assertEqual(reader.take("1"), 2)
        self.stands(reader, "", [2])
        self.assertIsNone(reader.take("0"))
        self.assertIsNone(reader.take("1"))
        self.assertIs(refusal(reader.take, "1"), BadBits)
        self.stands(reader, "01", [2])
        self.assertEqual(reader.take("0"), 1)
        self.stands(reader, "", [2, 1])

    def test_where_no_word_begins_so(self):
        reader = Reader(["0"])
        self.assertIs(refusal(reader.take, "1"), BadBits)
        self.stands(reader, "", [])
        self.assertEqual(reader.take("0"), 0)
        self.assertIs(refusal(reader.take, "1"), BadBits)
        self.stands(reader, "", [0])

    def test_no_words_at_all(self):
        reader = Reader([])
        for bit in ("0", "1", "", None):
            self.assertIs(refusal(reader.take, bit), BadBits)
            self.stands(reader, "", [])
        self.assertIsNone(reader.again())
        self.stands(reader, "", [])

    def test_again(self):
        for bits in ("", "1", "0", "0011", "110100"):
            reader, _ = fed(WORDS, bits)
            self.assertIsNone(reader.again())
            self.stands(reader, "", [])
            self.assertEqual([reader.take(bit) for bit in "1011"], [None, 0, None, None])
            self.stands(reader, "11", [0])
            self.assertIsNone(reader.again())
            self.assertIsNone(reader.again())
            self.stands(reader, "", [])
            self.assertEqual(reader.take("0"), 1)

    def test_again_behind_a_refusal(self):
        reader, _ = fed(GAPPED, "0001")
        self.assertIs(refusal(reader.take, "1"), BadBits)
        self.assertIsNone(reader.again())
        self.stands(reader, "", [])
        self.assertEqual([reader.take(bit) for bit in "010"], [None, None, 1])

    def test_all_short_bits(self):
        for words in (["0"], ["11"], ["0", "1"], WORDS, GAPPED):
            for bits in all_bits(7):
                reader = Reader(words)
                held, done = "", []
                for bit in bits:
                    going = [word for word in words if word.startswith(held + bit)]
                    if not going:
                        self.assertIs(refusal(reader.take, bit), BadBits)
                    elif going == [held + bit]:
                        self.assertEqual(reader.take(bit), words.index(held + bit))
                        done = done + [words.index(held + bit)]
                        held = ""
                    else:
                        self.assertIsNone(reader.take(bit))
                        held = held + bit
                    self.stands(reader, held, done)


class ReadersOwn(unittest.TestCase):
    def test_a_change_of_what_done_told(self):
        reader, _ = fed(WORDS, "010")
        told = reader.done()
        told.append(9)
        told[0] = 7
        self.assertEqual(reader.done(), [1, 0])
        reader.take("0")
        self.assertEqual(reader.done(), [1, 0, 1])
        self.assertEqual(told, [7, 0, 9])

    def test_what_done_told_stays(self):
        reader, _ = fed(WORDS, "010")
        told = reader.done()
        reader.take("0")
        self.assertEqual(told, [1, 0])
        reader.again()
        self.assertEqual(told, [1, 0])
        self.assertIsNot(reader.done(), reader.done())

    def test_a_change_at_the_begin(self):
        reader = Reader(WORDS)
        reader.done().append(5)
        self.assertEqual(reader.done(), [])
        reader.again()
        reader.done().append(5)
        self.assertEqual(reader.done(), [])

    def test_the_list_of_words_changed_behind(self):
        words = list(WORDS)
        reader = Reader(words)
        reader.take("1")
        words[0] = "0"
        words.reverse()
        words.append("nothing")
        self.assertEqual(reader.take("0"), 0)
        words.clear()
        self.assertEqual([reader.take(bit) for bit in "0111110"], [1, None, None, 2, None, None, 3])
        reader.again()
        self.assertEqual(reader.take("0"), 1)
        self.assertIs(refusal(Reader, ["0", "00"]), BadWords)

    def test_two_readers_side_by_side(self):
        words = list(WORDS)
        one, other, third = Reader(words), Reader(words), Reader(GAPPED)
        one.take("1")
        self.assertEqual((other.held(), third.held()), ("", ""))
        self.assertEqual(other.take("0"), 1)
        self.assertIsNone(third.take("0"))
        self.assertEqual((one.held(), one.done()), ("1", []))
        self.assertEqual(one.take("0"), 0)
        self.assertEqual((other.held(), other.done()), ("", [1]))
        self.assertEqual(third.take("0"), 0)
        one.again()
        self.assertEqual((one.done(), other.done(), third.done()), ([], [1], [0]))
        self.assertEqual(read(words, "00"), [1, 1])
        self.assertEqual((one.done(), other.done(), third.done()), ([], [1], [0]))


if __name__ == "__main__":
    unittest.main()
