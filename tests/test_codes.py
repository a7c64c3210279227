import inspect
import unittest

import shortlimit.codes
from shortlimit.codes import free_code, ordered_code, weighted
from shortlimit.packets import free_lengths, packet_rows
from shortlimit.tables import least_table, ordered_lengths
from shortlimit.words import words_by_lengths, words_in_order
from tests.helper import begins_another

LISTS = (
    [], [7], [0], [3, 2], [0, 0], [5, 1, 2], [1, 9, 1], [1, 1, 1], [1, 2, 4, 8, 16], [16, 8, 4, 2, 1], [9, 0, 0, 9],
    [5] * 8, [0] * 8, [3, 1, 4, 1, 5, 9, 2, 6],
)
WEIGHTS_OF_24 = (
    [5] * 24, [2 ** at for at in range(24)], [(at * 7919) % 101 for at in range(24)], [1000000000000] * 12 + [0] * 12,
)


class FreeCode(unittest.TestCase):
    def test_no_signs(self):
        for bound in range(1, 13):
            self.assertEqual(free_code([], bound), [])

    def test_one_sign(self):
        for bound in range(1, 13):
            self.assertEqual(free_code([7], bound), ["0"])

    def test_codes(self):
        self.assertEqual(free_code([3, 2], 1), ["0", "1"])
        self.assertEqual(free_code([5, 1, 2], 2), ["0", "10", "11"])
        self.assertEqual(free_code([1, 5, 2], 4), ["10", "0", "11"])
        self.assertEqual(free_code([1, 1, 1], 2), ["10", "11", "0"])
        self.assertEqual(free_code([1, 2, 4, 8, 16], 3), ["100", "101", "110", "111", "0"])
        self.assertEqual(free_code([1, 2, 4, 8, 16], 4), ["1110", "1111", "110", "10", "0"])

    def test_the_words_of_the_free_lengths(self):
        for weights in LISTS:
            for bound in (3, 4, 12):
                self.assertEqual(free_code(weights, bound), words_by_lengths(free_lengths(weights, bound)))
        for weights in WEIGHTS_OF_24:
            for bound in (5, 8, 12):
                self.assertEqual(free_code(weights, bound), words_by_lengths(free_lengths(weights, bound)))

    def test_no_word_begins_another(self):
        for weights in WEIGHTS_OF_24:
            for bound in (5, 8, 12):
                words = free_code(weights, bound)
                self.assertFalse(begins_another(words))
                self.assertTrue(all(1 <= len(word) <= bound for word in words))


class OrderedCode(unittest.TestCase):
    def test_no_signs(self):
        for bound in range(1, 13):
            self.assertEqual(ordered_code([], bound), [])

    def test_one_sign(self):
        for bound in range(1, 13):
            self.assertEqual(ordered_code([7], bound), ["0"])

    def test_codes(self):
        self.assertEqual(ordered_code([3, 2], 1), ["0", "1"])
        self.assertEqual(ordered_code([1, 9, 1], 2), ["0", "10", "11"])
        self.assertEqual(ordered_code([1, 1, 1], 2), ["0", "10", "11"])
        self.assertEqual(ordered_code([1, 5, 2], 4), ["00", "01", "1"])
        self.assertEqual(ordered_code([1, 2, 4, 8, 16], 3), ["000", "001", "010", "011", "1"])
        self.assertEqual(ordered_code([9, 1, 1, 9], 3), ["0", "100", "101", "11"])

    def test_the_words_of_the_ordered_lengths(self):
        for weights in LISTS:
            for bound in (3, 4, 12):
                self.assertEqual(ordered_code(weights, bound), words_in_order(ordered_lengths(weights, bound)))
        for weights in WEIGHTS_OF_24:
            for bound in (5, 8, 12):
                self.assertEqual(ordered_code(weights, bound), words_in_order(ordered_lengths(weights, bound)))

    def test_words_rise_and_none_begins_another(self):
        for weights in WEIGHTS_OF_24:
            for bound in (5, 8, 12):
                words = ordered_code(weights, bound)
                self.assertEqual(words, sorted(words))
                self.assertFalse(begins_another(words))
                self.assertTrue(all(1 <= len(word) <= bound for word in words))


class Weighted(unittest.TestCase):
    def test_name_and_arguments(self):
        self.assertEqual(list(inspect.signature(weighted).parameters), ["weights", "words"])
        self.assertEqual(weighted.__module__, "shortlimit.codes")
        self.assertIs(shortlimit.codes.weighted, weighted)
        self.assertEqual(weighted(words=["0", "10"], weights=[3, 4]), 11)

    def test_of_no_words(self):
        self.assertEqual(weighted([], []), 0)
        self.assertIs(type(weighted([], [])), int)

    def test_of_words_of_ones_own(self):
        self.assertEqual(weighted([7], ["0"]), 7)
        self.assertEqual(weighted([7], ["000000000000"]), 84)
        self.assertEqual(weighted([5, 1, 2], ["0", "10", "11"]), 11)
        self.assertEqual(weighted([5, 1, 2], ["110", "0", "10"]), 20)
        self.assertEqual(weighted([0, 0], ["0", "1"]), 0)
        self.assertEqual(weighted([1000000000000] * 24, ["0" * 12] * 24), 288000000000000)

    def test_it_refuses_nothing(self):
        self.assertEqual(weighted([3], [""]), 0)
        self.assertEqual(weighted([3, 2], ["0", "0"]), 5)
        self.assertEqual(weighted([3, 2], ["0", "01"]), 7)
        self.assertEqual(weighted([3], ["01" * 10]), 60)
        self.assertEqual(weighted([3, 2], ["abc", "2"]), 11)
        self.assertEqual(weighted([1] * 30, ["00"] * 30), 60)
        self.assertEqual(weighted([-1, 1000000000001], ["00", "1"]), 999999999999)

    def test_of_codes(self):
        for weights in [*LISTS, *WEIGHTS_OF_24]:
            for bound in (5, 8, 12):
                many = len(weights)
                if many < 2:
                    self.assertEqual(weighted(weights, free_code(weights, bound)), sum(weights))
                    self.assertEqual(weighted(weights, ordered_code(weights, bound)), sum(weights))
                    continue
                taken = packet_rows(weights, bound)[-1][:2 * many - 2]
                free = sum([packet[0] for packet in taken])
                self.assertEqual(weighted(weights, free_code(weights, bound)), free)
                ordered = least_table(weights, bound)[(0, many, bound)]
                self.assertEqual(weighted(weights, ordered_code(weights, bound)), ordered)
                self.assertLessEqual(free, ordered)

    def test_lists_stay_as_they_were(self):
        weights, words = [5, 1, 2], ["0", "10", "11"]
        weighted(weights, words)
        self.assertEqual((weights, words), ([5, 1, 2], ["0", "10", "11"]))


if __name__ == "__main__":
    unittest.main()
