import unittest

import shortlimit.errors
from shortlimit.bits import Reader, read, written
from shortlimit.codes import free_code, ordered_code
from shortlimit.counts import barred, counted, room
from shortlimit.errors import CodeError
from shortlimit.packets import free_lengths, packet_rows
from shortlimit.tables import least_table, ordered_lengths
from shortlimit.words import words_by_lengths, words_in_order

NAMES = ("NoWeights", "BadWeight", "BadBound", "NoRoom", "BadLengths", "BadWords", "BadBits", "NoSign")


class Classes(unittest.TestCase):
    def test_code_error_is_straight_under_value_error(self):
        self.assertEqual(CodeError.__bases__, (ValueError,))
        self.assertEqual(CodeError.__name__, "CodeError")

    def test_each_class_is_straight_under_code_error(self):
        for name in NAMES:
            kind = getattr(shortlimit.errors, name)
            self.assertEqual(kind.__bases__, (CodeError,), name)
            self.assertEqual(kind.__name__, name)

    def test_all_are_defined_in_errors(self):
        for name in NAMES + ("CodeError",):
            self.assertEqual(getattr(shortlimit.errors, name).__module__, "shortlimit.errors", name)

    def test_no_class_is_another_one(self):
        kinds = [getattr(shortlimit.errors, name) for name in NAMES]
        for kind in kinds:
            self.assertEqual([other for other in kinds if issubclass(kind, other)], [kind])

    def test_each_can_be_raised_and_caught_as_any_refusal(self):
        for name in NAMES:
            kind = getattr(shortlimit.errors, name)
            with self.assertRaises(CodeError):
                raise kind("a word on it")
            with self.assertRaises(ValueError):
                raise kind("a word on it")


class Refusals(unittest.TestCase):
    """Each refusal is of its own class and of none of the others."""

    def check(self, name, call, *args):
        with self.assertRaises(ValueError) as caught:
            call(*args)
        error = caught.exception
        self.assertIsInstance(error, CodeError)
        fitting = [other for other in NAMES if isinstance(error, getattr(shortlimit.errors, other))]
        self.assertEqual(fitting, [name])

    def test_no_weights(self):
        self.check("NoWeights", barred, [1] * 25, 3)

    def test_bad_weight(self):
        self.check("BadWeight", barred, [-1], 3)

    def test_bad_bound(self):
        self.check("BadBound", room, 0)
        self.check("BadBound", counted, [], 13)
        self.check("BadBound", barred, [], None)

    def test_bad_lengths(self):
        self.check("BadLengths", counted, [4], 3)
        self.check("BadLengths", words_by_lengths, [0])
        self.check("BadLengths", words_by_lengths, [1, 1, 1])
        self.check("BadLengths", words_in_order, [0])
        self.check("BadLengths", words_in_order, [1, 1, 1])
        self.check("BadLengths", words_in_order, [2, 1, 2])

    def test_no_room(self):
        for call in (packet_rows, free_lengths, least_table, ordered_lengths, free_code, ordered_code):
            self.check("NoRoom", call, [1, 1, 1], 1)

    def test_bad_words(self):
        self.check("BadWords", Reader, ["0", "01"])
        self.check("BadWords", written, ["2"], [])
        self.check("BadWords", read, [""], "")

    def test_bad_bits(self):
        self.check("BadBits", read, ["0", "10"], "11")
        self.check("BadBits", read, ["0", "10"], "1")
        self.check("BadBits", read, ["0", "10"], "2")
        self.check("BadBits", Reader(["0", "10"]).take, "2")

    def test_no_sign(self):
        self.check("NoSign", written, ["0", "10"], [2])


if __name__ == "__main__":
    unittest.main()
