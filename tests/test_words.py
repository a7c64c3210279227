import inspect
import itertools
import unittest

import shortlimit.words
from shortlimit.counts import counted
from shortlimit.errors import BadLengths
from shortlimit.words import words_by_lengths, words_in_order
from tests.helper import NO_NUMBERS, begins_another, refusal

BOTH = (words_by_lengths, words_in_order)
JUST_THE_ROOM = [1, 2, 3, 4, 5, 6, 7, 8, 9, 10, 11, 12, 12]
ALL_WORDS = ["".join(bits) for bits in itertools.product("01", repeat=12)]


def begun(word):
    """The places of a word: the numbers of the words of 12 bits that begin with it."""
    return [at for at, whole in enumerate(ALL_WORDS) if whole.startswith(word)]


def short_lists(most_length, most_many):
    for many in range(most_many + 1):
        for lengths in itertools.product(range(1, most_length + 1), repeat=many):
            yield list(lengths)


def next_word(length, behind):
    """The first word of a length whose places all are from a place on, by trying all; else None."""
    for bits in itertools.product("01", repeat=length):
        word = "".join(bits)
        if int(word.ljust(12, "0"), 2) >= behind:
            return word
    return None


def in_order_by_trying(lengths):
    words = []
    behind = 0
    for length in lengths:
        word = next_word(length, behind)
        if word is None:
            return None
        words.append(word)
        behind = int(word.ljust(12, "1"), 2) + 1
    return words


class Interface(unittest.TestCase):
    def test_names_and_arguments(self):
        for call in BOTH:
            self.assertEqual(list(inspect.signature(call).parameters), ["lengths"])
            self.assertEqual(call.__module__, "shortlimit.words")
            self.assertIs(getattr(shortlimit.words, call.__name__), call)

    def test_argument_by_name(self):
        self.assertEqual(words_by_lengths(lengths=[2, 1]), ["10", "0"])
        self.assertEqual(words_in_order(lengths=[2, 1]), ["00", "1"])

    def test_a_list_of_texts_is_told(self):
        for call in BOTH:
            told = call([1, 3, 3])
            self.assertIs(type(told), list)
            self.assertEqual([type(word) for word in told], [str, str, str])


class Refused(unittest.TestCase):
    """What both functions refuse alike."""

    def test_things_that_are_no_length_at_each_place(self):
        for thing in NO_NUMBERS + (0, 13, -1, 14, 10 ** 30):
            for lengths in ([thing], [thing, 2, 3], [2, thing, 3], [2, 3, thing], [12] * 23 + [thing]):
                for call in BOTH:
                    self.assertIs(refusal(call, lengths), BadLengths, lengths)

    def test_how_many_lengths(self):
        for call in BOTH:
            self.assertEqual(len(call([12] * 24)), 24)
            self.assertEqual(len(call([5] * 24)), 24)
            self.assertIs(refusal(call, [12] * 25), BadLengths)
            self.assertIs(refusal(call, [5] * 25), BadLengths)
            self.assertIs(refusal(call, [12] * 100), BadLengths)

    def test_the_edges_of_the_sum(self):
        self.assertEqual(counted(JUST_THE_ROOM, 12), 4096)
        self.assertEqual(counted(JUST_THE_ROOM + [12], 12), 4097)
        for call in BOTH:
            self.assertIsNone(refusal(call, JUST_THE_ROOM))
            self.assertIs(refusal(call, JUST_THE_ROOM + [12]), BadLengths)
            self.assertIs(refusal(call, [12] + JUST_THE_ROOM), BadLengths)
            self.assertIs(refusal(call, [1, 1, 12]), BadLengths)
            self.assertIs(refusal(call, [12, 1, 1]), BadLengths)
            self.assertIs(refusal(call, [1] * 24), BadLengths)

    def test_small_lists_whose_sum_is_greater_than_the_room(self):
        for lengths in short_lists(3, 5):
            if counted(lengths, 12) > 4096:
                for call in BOTH:
                    self.assertIs(refusal(call, lengths), BadLengths, lengths)


class ByLengths(unittest.TestCase):
    def test_no_lengths(self):
        self.assertEqual(words_by_lengths([]), [])

    def test_one_length(self):
        for length in range(1, 13):
            self.assertEqual(words_by_lengths([length]), ["0" * length])

    def test_equal_lengths_the_lesser_number_first(self):
        self.assertEqual(words_by_lengths([1, 1]), ["0", "1"])
        self.assertEqual(words_by_lengths([2, 2, 2, 2]), ["00", "01", "10", "11"])
        self.assertEqual(words_by_lengths([3, 3, 3]), ["000", "001", "010"])

    def test_lengths_in_rising_order(self):
        self.assertEqual(words_by_lengths([1, 2, 3, 3]), ["0", "10", "110", "111"])

    def test_lengths_in_other_orders(self):
        self.assertEqual(words_by_lengths([3, 3, 2, 1]), ["110", "111", "10", "0"])
        self.assertEqual(words_by_lengths([2, 1, 2]), ["10", "0", "11"])
        self.assertEqual(words_by_lengths([3, 1, 4, 2, 4]), ["110", "0", "1110", "10", "1111"])
        self.assertEqual(words_by_lengths([4, 2, 4, 2, 3]), ["1010", "00", "1011", "01", "100"])
        self.assertEqual(words_by_lengths([12, 3]), ["001000000000", "000"])

    def test_a_sum_that_is_just_the_room(self):
        words = [11 * "1" + "0"] + ["1" * many + "0" for many in range(11)] + [12 * "1"]
        self.assertEqual(words_by_lengths([12] + JUST_THE_ROOM[:-2] + [12]), words)

    def test_twenty_four_lengths(self):
        words = words_by_lengths([5, 4, 5] * 8)
        self.assertEqual(words[1::3], [f"{at:04b}" for at in range(8)])
        self.assertEqual([word for at, word in enumerate(words) if at % 3 != 1], [f"{at:05b}" for at in range(16, 32)])
        self.assertEqual(words_by_lengths([12] * 24), [f"{at:012b}" for at in range(24)])

    def test_places_one_behind_the_other(self):
        for lengths in ([3, 1, 4, 2], [5, 2, 2, 7, 5], [12, 11, 10, 1], [6] * 5 + [4] * 5, JUST_THE_ROOM[::-1]):
            words = words_by_lengths(lengths)
            taken = []
            for _, sign in sorted((length, sign) for sign, length in enumerate(lengths)):
                taken = taken + begun(words[sign])
            self.assertEqual(taken, list(range(counted(lengths, 12))), lengths)

    def test_all_short_lists(self):
        for lengths in short_lists(4, 5):
            if counted(lengths, 12) <= 4096:
                words = words_by_lengths(lengths)
                self.assertEqual([len(word) for word in words], lengths)
                self.assertFalse(begins_another(words), lengths)
                ranked = [words[sign] for _, sign in sorted((length, sign) for sign, length in enumerate(lengths))]
                self.assertEqual(ranked, sorted(words), lengths)

    def test_equal_lengths_give_numbers_one_behind_the_other(self):
        words = words_by_lengths([4, 3, 4, 2, 4, 3])
        self.assertEqual([int(words[at], 2) for at in (1, 5)], [2, 3])
        self.assertEqual([int(words[at], 2) for at in (0, 2, 4)], [8, 9, 10])


class InOrder(unittest.TestCase):
    def test_no_lengths(self):
        self.assertEqual(words_in_order([]), [])

    def test_one_length(self):
        for length in range(1, 13):
            self.assertEqual(words_in_order([length]), ["0" * length])

    def test_places_left_between_words(self):
        self.assertEqual(words_in_order([3, 1]), ["000", "1"])
        self.assertEqual(words_in_order([2, 3, 2]), ["00", "010", "10"])
        self.assertEqual(words_in_order([3, 2, 4, 3]), ["000", "01", "1000", "101"])
        self.assertEqual(words_in_order([12, 1]), ["000000000000", "1"])
        self.assertEqual(words_in_order([12, 11, 2]), ["000000000000", "00000000001", "01"])

    def test_lengths_that_fill_the_room(self):
        self.assertEqual(words_in_order([1, 1]), ["0", "1"])
        self.assertEqual(words_in_order([2, 2, 1]), ["00", "01", "1"])
        self.assertEqual(words_in_order([1, 2, 2]), ["0", "10", "11"])
        self.assertEqual(words_in_order([3, 3, 2, 1]), ["000", "001", "01", "1"])
        self.assertEqual(words_in_order([2, 3, 3, 1]), ["00", "010", "011", "1"])
        self.assertEqual(words_in_order(JUST_THE_ROOM)[-1], "1" * 12)
        self.assertEqual(words_in_order(JUST_THE_ROOM[::-1])[-1], "1")

    def test_places_left_behind_the_last_word(self):
        self.assertEqual(words_in_order([1, 3]), ["0", "100"])
        self.assertEqual(words_in_order([3, 2]), ["000", "01"])

    def test_no_such_places_left_though_the_sum_fits(self):
        for lengths in ([2, 1, 2], [2, 1, 3], [2, 1, 12], [12, 1, 12], [3, 1, 2, 3], [3, 2, 2, 2, 3]):
            self.assertLessEqual(counted(lengths, 12), 4096)
            self.assertIs(refusal(words_in_order, lengths), BadLengths, lengths)
            self.assertIsNone(refusal(words_by_lengths, lengths), lengths)

    def test_twenty_four_lengths(self):
        self.assertEqual(words_in_order([12] * 24), [f"{at:012b}" for at in range(24)])
        words = words_in_order([5, 5, 4] * 8)
        self.assertEqual(words[2::3], [f"{at:04b}" for at in range(1, 16, 2)])
        self.assertEqual(words[0::3], [f"{at:05b}" for at in range(0, 32, 4)])
        self.assertEqual(words[1::3], [f"{at:05b}" for at in range(1, 32, 4)])

    def test_all_short_lists(self):
        for lengths in short_lists(4, 5):
            if counted(lengths, 12) > 4096:
                continue
            words = in_order_by_trying(lengths)
            if words is None:
                self.assertIs(refusal(words_in_order, lengths), BadLengths, lengths)
            else:
                self.assertEqual(words_in_order(lengths), words)

    def test_words_rise_and_none_begins_another(self):
        for lengths in ([3, 2, 4, 3], [12, 11, 2, 12, 2], [5, 2, 5, 2], [6, 6, 4, 9, 9, 8, 1]):
            words = words_in_order(lengths)
            self.assertEqual([len(word) for word in words], lengths)
            self.assertEqual(words, sorted(words))
            self.assertFalse(begins_another(words), lengths)


class WhatIsHandedIn(unittest.TestCase):
    def test_lists_stay_as_they_were(self):
        for call in BOTH:
            lengths = [3, 3, 2, 1]
            call(lengths)
            self.assertEqual(lengths, [3, 3, 2, 1])

    def test_lists_stay_as_they_were_when_refused(self):
        for call in BOTH:
            for lengths in ([3, 1, 0], [2, 1, 2, 1], [4, 1, None, 2], [2, 1, 2]):
                before = list(lengths)
                refusal(call, lengths)
                self.assertEqual(lengths, before)

    def test_a_change_of_the_list_changes_nothing_told(self):
        for call in BOTH:
            lengths = [2, 2, 1]
            told = call(lengths)
            before = list(told)
            lengths.append(1)
            lengths[0] = 12
            self.assertEqual(told, before)

    def test_a_change_of_what_was_told_changes_nothing_else(self):
        for call in BOTH:
            lengths = [2, 2, 1]
            told = call(lengths)
            before = list(told)
            told.append("x")
            told[0] = "y"
            self.assertEqual(lengths, [2, 2, 1])
            self.assertEqual(call(lengths), before)
            none = call([])
            none.append("x")
            self.assertEqual(call([]), [])

    def test_two_askers_get_lists_of_their_own(self):
        for call in BOTH:
            lengths = [1, 2]
            first = call(lengths)
            second = call(lengths)
            self.assertIsNot(first, second)
            first.clear()
            self.assertEqual(second, ["0", "10"])
            self.assertIsNot(call([]), call([]))


if __name__ == "__main__":
    unittest.main()
