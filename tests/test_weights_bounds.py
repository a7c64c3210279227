"""Point 2 over all that takes weights and a bound, and point 1 over what these tell."""

import copy
import functools
import inspect
import unittest

import shortlimit.codes
import shortlimit.packets
import shortlimit.tables
from shortlimit.codes import free_code, ordered_code
from shortlimit.errors import BadBound, BadWeight, NoRoom, NoWeights
from shortlimit.packets import free_lengths, packet_rows
from shortlimit.tables import least_table, ordered_lengths
from tests.helper import NO_BOUNDS, NO_WEIGHTS, refusal

FILES = {
    packet_rows: shortlimit.packets, free_lengths: shortlimit.packets,
    least_table: shortlimit.tables, ordered_lengths: shortlimit.tables,
    free_code: shortlimit.codes, ordered_code: shortlimit.codes,
}
CALLS = tuple(FILES)


def each_call(test):
    """Let a test run once for each of the six functions."""
    @functools.wraps(test)
    def run(self):
        for call in CALLS:
            with self.subTest(call=call.__name__):
                test(self, call)
    return run


class Interface(unittest.TestCase):
    @each_call
    def test_names_and_arguments(self, call):
        self.assertEqual(list(inspect.signature(call).parameters), ["weights", "bound"])
        self.assertEqual(call.__module__, FILES[call].__name__)
        self.assertIs(getattr(FILES[call], call.__name__), call)

    @each_call
    def test_arguments_by_name(self, call):
        self.assertEqual(call(bound=3, weights=[3, 1, 2]), call([3, 1, 2], 3))

    @each_call
    def test_kinds_of_what_is_told(self, call):
        for weights in ([], [4], [4, 4], [4, 0, 7]):
            self.assertIs(type(call(weights, 3)), dict if call is least_table else list)


class HowMany(unittest.TestCase):
    @each_call
    def test_twenty_four_weights(self, call):
        for bound in (5, 6, 12):
            self.assertIsNone(refusal(call, [3] * 24, bound))

    @each_call
    def test_more_weights(self, call):
        for many in (25, 26, 33, 100):
            for bound in (1, 4, 5, 12):
                self.assertIs(refusal(call, [3] * many, bound), NoWeights)

    @each_call
    def test_no_weights_at_every_bound(self, call):
        for bound in range(1, 13):
            self.assertIsNone(refusal(call, [], bound))


class Weights(unittest.TestCase):
    @each_call
    def test_the_edges_of_a_weight(self, call):
        for weights in ([0], [1000000000000], [0, 1000000000000], [1000000000000] * 24, [0] * 24):
            self.assertIsNone(refusal(call, weights, 12), weights)
        for thing in (-1, 1000000000001):
            self.assertIs(refusal(call, [thing], 1), BadWeight)
            self.assertIs(refusal(call, [0] * 23 + [thing], 12), BadWeight)

    @each_call
    def test_things_that_are_no_weight_at_each_place(self, call):
        for thing in NO_WEIGHTS:
            for weights in ([thing], [thing, 2, 3], [2, thing, 3], [2, 3, thing], [2] * 23 + [thing]):
                self.assertIs(refusal(call, weights, 5), BadWeight, weights)


class Bounds(unittest.TestCase):
    @each_call
    def test_every_bound(self, call):
        for bound in range(1, 13):
            for weights in ([], [1], [1, 2]):
                self.assertIsNone(refusal(call, weights, bound))

    @each_call
    def test_no_bounds(self, call):
        for bound in NO_BOUNDS:
            for weights in ([], [1], [1, 2, 3]):
                self.assertIs(refusal(call, weights, bound), BadBound, bound)


class Room(unittest.TestCase):
    @each_call
    def test_as_many_signs_as_places(self, call):
        for bound in (1, 2, 3, 4):
            for weight in (0, 7):
                self.assertIsNone(refusal(call, [weight] * 2 ** bound, bound))

    @each_call
    def test_one_sign_more(self, call):
        for bound in (1, 2, 3, 4):
            for weight in (0, 7):
                self.assertIs(refusal(call, [weight] * (2 ** bound + 1), bound), NoRoom)

    @each_call
    def test_every_count_of_signs_at_every_bound(self, call):
        for bound in range(1, 6):
            for many in range(25):
                told = None if many <= 2 ** bound else NoRoom
                self.assertIs(refusal(call, [5] * many, bound), told, (many, bound))


class Order(unittest.TestCase):
    @each_call
    def test_too_many_weights_ahead_of_all(self, call):
        for thing in NO_WEIGHTS:
            for bound in (0, 13, True, None, 1, 5):
                self.assertIs(refusal(call, [thing] + [1] * 24, bound), NoWeights)
                self.assertIs(refusal(call, [1] * 24 + [thing], bound), NoWeights)
        for bound in NO_BOUNDS:
            self.assertIs(refusal(call, [1] * 25, bound), NoWeights)

    @each_call
    def test_a_bad_weight_ahead_of_a_bad_bound(self, call):
        for thing in NO_WEIGHTS:
            for bound in NO_BOUNDS:
                self.assertIs(refusal(call, [1, thing], bound), BadWeight, (thing, bound))

    @each_call
    def test_a_bad_weight_ahead_of_no_room(self, call):
        for thing in NO_WEIGHTS:
            self.assertIs(refusal(call, [1, 2, 3, 4, thing], 1), BadWeight, thing)
            self.assertIs(refusal(call, [thing] * 24, 1), BadWeight, thing)

    @each_call
    def test_a_bad_bound_of_many_signs(self, call):
        for bound in NO_BOUNDS:
            self.assertIs(refusal(call, [1] * 24, bound), BadBound, bound)


class WhatIsHandedIn(unittest.TestCase):
    @each_call
    def test_lists_stay_as_they_were(self, call):
        for weights in ([], [4], [9, 0, 9, 2, 1], list(range(24, 0, -1))):
            before = list(weights)
            call(weights, 6)
            self.assertEqual(weights, before)

    @each_call
    def test_lists_stay_as_they_were_when_refused(self, call):
        for weights, bound in (([3, 1, 2], 1), ([3, 1, 2], 0), ([3, None, 2], 3), ([3, 1, 2] * 9, 3)):
            before = list(weights)
            self.assertIsNotNone(refusal(call, weights, bound))
            self.assertEqual(weights, before)

    @each_call
    def test_a_refused_list_that_is_made_good_is_taken(self, call):
        weights = [3, -1, 2]
        self.assertIs(refusal(call, weights, 2), BadWeight)
        weights[1] = 1
        self.assertEqual(call(weights, 2), call([3, 1, 2], 2))
        self.assertIs(refusal(call, weights, 13), BadBound)
        self.assertEqual(call(weights, 12), call([3, 1, 2], 12))
        weights.extend([4, 5])
        self.assertIs(refusal(call, weights, 2), NoRoom)
        self.assertEqual(call(weights, 3), call([3, 1, 2, 4, 5], 3))
        weights.pop()
        self.assertEqual(call(weights, 2), call([3, 1, 2, 4], 2))
        weights.extend([1] * 21)
        self.assertIs(refusal(call, weights, 12), NoWeights)
        weights.pop()
        self.assertEqual(call(weights, 12), call([3, 1, 2, 4] + [1] * 20, 12))


class WhatIsTold(unittest.TestCase):
    @each_call
    def test_a_change_of_the_weights_changes_nothing_told(self, call):
        weights = [3, 1, 2, 9]
        told = call(weights, 3)
        before = copy.deepcopy(told)
        weights[0] = 1000
        weights.append(7)
        self.assertEqual(told, before)
        call(weights, 3)
        self.assertEqual(told, before)

    @each_call
    def test_a_change_of_what_was_told_changes_nothing_else(self, call):
        for weights in ([], [5], [3, 1, 2, 9]):
            before = list(weights)
            told = call(weights, 3)
            kept = copy.deepcopy(told)
            told.clear()
            self.assertEqual(weights, before)
            self.assertEqual(call(weights, 3), kept)

    @each_call
    def test_two_askers_get_their_own(self, call):
        for weights in ([], [5], [3, 1, 2, 9]):
            one = call(weights, 3)
            other = call(weights, 3)
            self.assertIsNot(one, other)
            kept = copy.deepcopy(other)
            one.clear()
            self.assertEqual(other, kept)

    @each_call
    def test_what_is_asked_between_changes_nothing(self, call):
        told = call([3, 1, 2, 9], 3)
        kept = copy.deepcopy(told)
        for other in CALLS:
            other([8, 8, 1], 2)
            refusal(other, [8, 8, 1], 1)
        self.assertEqual(told, kept)
        self.assertEqual(call([3, 1, 2, 9], 3), kept)


if __name__ == "__main__":
    unittest.main()
