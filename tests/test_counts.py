import inspect
import itertools
import unittest

import shortlimit.counts
from shortlimit.counts import barred, counted, room
from shortlimit.errors import BadBound, BadLengths, BadWeight, NoWeights
from tests.helper import NO_BOUNDS, NO_NUMBERS, NO_WEIGHTS, begins_another, refusal


def all_words(length):
    return ["".join(bits) for bits in itertools.product("01", repeat=length)]


def has_words(lengths, chosen=()):
    """Whether there are words of these lengths of which none begins another: by trying all."""
    if begins_another(chosen):
        return False
    if len(chosen) == len(lengths):
        return True
    return any(has_words(lengths, chosen + (word,)) for word in all_words(lengths[len(chosen)]))


class Interface(unittest.TestCase):
    def test_names_and_arguments(self):
        for call, names in ((room, ["bound"]), (counted, ["lengths", "bound"]), (barred, ["weights", "bound"])):
            self.assertEqual(list(inspect.signature(call).parameters), names)
            self.assertEqual(call.__module__, "shortlimit.counts")
            self.assertIs(getattr(shortlimit.counts, call.__name__), call)

    def test_arguments_by_name(self):
        self.assertEqual(room(bound=3), 8)
        self.assertEqual(counted(lengths=[1, 3], bound=3), 5)
        self.assertEqual(barred(weights=[1, 2, 3], bound=1), (3, 2))


class Room(unittest.TestCase):
    def test_every_bound(self):
        places = [2, 4, 8, 16, 32, 64, 128, 256, 512, 1024, 2048, 4096]
        self.assertEqual([room(bound) for bound in range(1, 13)], places)

    def test_as_many_places_as_words(self):
        for bound in range(1, 13):
            self.assertEqual(room(bound), len(all_words(bound)))

    def test_tells_a_whole_number(self):
        self.assertIs(type(room(1)), int)

    def test_no_bounds(self):
        for bound in NO_BOUNDS:
            self.assertIs(refusal(room, bound), BadBound, bound)


class Counted(unittest.TestCase):
    def test_no_lengths_take_no_places(self):
        for bound in range(1, 13):
            self.assertEqual(counted([], bound), 0)
        self.assertIs(type(counted([], 5)), int)

    def test_one_length_at_each_bound(self):
        for bound in range(1, 13):
            for length in range(1, bound + 1):
                begun = [word for word in all_words(bound) if word.startswith("0" * length)]
                self.assertEqual(counted([length], bound), len(begun), (length, bound))

    def test_the_edges_of_a_length(self):
        self.assertEqual(counted([1], 1), 1)
        self.assertEqual(counted([1], 12), 2048)
        self.assertEqual(counted([12], 12), 1)
        self.assertEqual(counted([7], 7), 1)

    def test_lengths_in_any_order(self):
        self.assertEqual(counted([1, 2, 3, 3], 3), 8)
        self.assertEqual(counted([3, 1, 3, 2], 3), 8)
        self.assertEqual(counted([2, 5, 1, 4], 5), 8 + 1 + 16 + 2)
        self.assertEqual(counted([2, 2], 4), 8)

    def test_a_sum_greater_than_the_room_is_told(self):
        self.assertEqual(counted([1, 1, 1], 1), 3)
        self.assertEqual(counted([1, 2, 2, 3], 3), 9)
        self.assertEqual(counted([1] * 24, 12), 24 * 2048)

    def test_how_many_lengths(self):
        self.assertEqual(counted([12] * 24, 12), 24)
        self.assertEqual(counted([1] * 24, 1), 24)
        self.assertIs(refusal(counted, [12] * 25, 12), BadLengths)
        self.assertIs(refusal(counted, [1] * 25, 1), BadLengths)
        self.assertIs(refusal(counted, [5] * 40, 6), BadLengths)

    def test_lengths_beyond_the_edges(self):
        for bound in range(1, 13):
            for length in (0, -1, bound + 1, bound + 2, 13, 10 ** 30):
                self.assertIs(refusal(counted, [length], bound), BadLengths, (length, bound))

    def test_things_that_are_no_length_at_each_place(self):
        for thing in NO_NUMBERS + (0, 6):
            for lengths in ([thing], [thing, 2, 3], [2, thing, 3], [2, 3, thing], [2] * 23 + [thing]):
                self.assertIs(refusal(counted, lengths, 5), BadLengths, lengths)

    def test_no_bounds(self):
        for bound in NO_BOUNDS:
            self.assertIs(refusal(counted, [1, 2], bound), BadBound, bound)
            self.assertIs(refusal(counted, [], bound), BadBound, bound)

    def test_a_bad_bound_ahead_of_bad_lengths(self):
        for bound in NO_BOUNDS:
            for lengths in ([0], [13], [True], [None], ["1"], [1] * 25, [0] * 25):
                self.assertIs(refusal(counted, lengths, bound), BadBound, (lengths, bound))

    def test_there_are_words_just_where_the_sum_fits(self):
        for bound in (1, 2, 3):
            for many in range(0, 5):
                for lengths in itertools.combinations_with_replacement(range(1, bound + 1), many):
                    fits = counted(list(lengths), bound) <= room(bound)
                    self.assertEqual(fits, has_words(lengths), (lengths, bound))


class Barred(unittest.TestCase):
    def test_as_many_signs_as_places(self):
        for bound in (1, 2, 3, 4):
            self.assertIsNone(barred([7] * 2 ** bound, bound))

    def test_one_sign_fewer(self):
        for bound in (1, 2, 3, 4):
            self.assertIsNone(barred([7] * (2 ** bound - 1), bound))

    def test_one_sign_more(self):
        for bound in (1, 2, 3, 4):
            told = barred([7] * (2 ** bound + 1), bound)
            self.assertEqual(told, (2 ** bound + 1, 2 ** bound))
            self.assertEqual([type(told), type(told[0]), type(told[1])], [tuple, int, int])

    def test_no_signs_at_all(self):
        for bound in range(1, 13):
            self.assertIsNone(barred([], bound))

    def test_every_count_of_signs_at_every_bound(self):
        for bound in range(1, 13):
            for many in range(0, 25):
                told = None if many <= 2 ** bound else (many, 2 ** bound)
                self.assertEqual(barred([5] * many, bound), told, (many, bound))

    def test_how_many_weights(self):
        self.assertEqual(barred([1] * 24, 4), (24, 16))
        self.assertIsNone(barred([1] * 24, 5))
        self.assertIsNone(barred([1] * 24, 12))
        self.assertIs(refusal(barred, [1] * 25, 4), NoWeights)
        self.assertIs(refusal(barred, [1] * 25, 5), NoWeights)
        self.assertIs(refusal(barred, [1] * 100, 12), NoWeights)

    def test_the_edges_of_a_weight(self):
        self.assertIsNone(barred([0], 1))
        self.assertIsNone(barred([1000000000000], 1))
        self.assertEqual(barred([0, 1000000000000, 0], 1), (3, 2))
        self.assertIs(refusal(barred, [-1], 1), BadWeight)
        self.assertIs(refusal(barred, [1000000000001], 1), BadWeight)

    def test_what_signs_weigh_is_not_counted(self):
        self.assertEqual(barred([0, 0, 0], 1), (3, 2))
        self.assertIsNone(barred([1000000000000] * 4, 2))

    def test_things_that_are_no_weight_at_each_place(self):
        for thing in NO_WEIGHTS:
            for weights in ([thing], [thing, 2, 3], [2, thing, 3], [2, 3, thing], [2] * 23 + [thing]):
                self.assertIs(refusal(barred, weights, 2), BadWeight, weights)

    def test_no_bounds(self):
        for bound in NO_BOUNDS:
            self.assertIs(refusal(barred, [1, 2], bound), BadBound, bound)
            self.assertIs(refusal(barred, [], bound), BadBound, bound)

    def test_the_edges_of_a_bound(self):
        self.assertIsNone(barred([1, 2], 1))
        self.assertIsNone(barred([1, 2], 12))

    def test_too_many_weights_ahead_of_all(self):
        self.assertIs(refusal(barred, [-1] * 25, 3), NoWeights)
        self.assertIs(refusal(barred, [True] + [1] * 24, 3), NoWeights)
        for bound in NO_BOUNDS:
            self.assertIs(refusal(barred, [1] * 25, bound), NoWeights, bound)
            self.assertIs(refusal(barred, [None] * 25, bound), NoWeights, bound)

    def test_a_bad_weight_ahead_of_a_bad_bound(self):
        for bound in NO_BOUNDS:
            for thing in NO_WEIGHTS:
                self.assertIs(refusal(barred, [1, thing], bound), BadWeight, (thing, bound))

    def test_a_bad_weight_ahead_of_too_many_signs(self):
        self.assertIs(refusal(barred, [1, 2, 3, 4, -1], 1), BadWeight)

    def test_a_bad_bound_of_many_signs(self):
        self.assertIs(refusal(barred, [1] * 24, 0), BadBound)
        self.assertIs(refusal(barred, [1] * 24, True), BadBound)

    def test_never_refused_for_want_of_room(self):
        for many in range(3, 25):
            self.assertIsNone(refusal(barred, [1] * many, 1))


class WhatIsHandedIn(unittest.TestCase):
    def test_lists_stay_as_they_were(self):
        lengths = [3, 1, 2]
        counted(lengths, 3)
        self.assertEqual(lengths, [3, 1, 2])
        weights = [5, 0, 7, 1]
        barred(weights, 1)
        barred(weights, 2)
        self.assertEqual(weights, [5, 0, 7, 1])

    def test_lists_stay_as_they_were_when_refused(self):
        lengths = [3, 1, 2]
        refusal(counted, lengths, 2)
        refusal(counted, lengths, 0)
        self.assertEqual(lengths, [3, 1, 2])
        weights = [5, 0, -7, 1]
        refusal(barred, weights, 2)
        self.assertEqual(weights, [5, 0, -7, 1])

    def test_what_is_told_does_not_hang_on_the_list_later(self):
        weights = [5, 0, 7]
        told = barred(weights, 1)
        weights.append(9)
        self.assertEqual(told, (3, 2))
        self.assertEqual(barred(weights, 1), (4, 2))
        lengths = [1, 2]
        self.assertEqual(counted(lengths, 2), 3)
        lengths[0] = 2
        self.assertEqual(counted(lengths, 2), 2)

    def test_the_same_is_told_again(self):
        self.assertEqual([room(4), room(4), room(3), room(4)], [16, 16, 8, 16])
        self.assertEqual([counted([2], 3) for _ in range(3)], [2, 2, 2])
        self.assertEqual([barred([1, 1, 1], 1) for _ in range(3)], [(3, 2)] * 3)


if __name__ == "__main__":
    unittest.main()
