import itertools
import unittest

from shortlimit.packets import free_lengths
from shortlimit.tables import least_table, ordered_lengths
from shortlimit.words import words_in_order
from tests.helper import free_choices, refusal, trees, weighs

WEIGHTS_OF_24 = (
    [5] * 24, [0] * 24, [2 ** at for at in range(24)], [2 ** at for at in range(23, -1, -1)],
    [(at * 7919) % 101 for at in range(24)], [1000000000000] * 12 + [0] * 12, [1, 1, 2, 3, 5, 8, 13, 21] * 3,
)
SHORT_LISTS = [
    list(weights)
    for many in range(6)
    for weights in itertools.product((0, 1, 4), repeat=many)
] + [[3, 1, 4, 1, 5, 9], [9, 5, 1, 4, 1, 3], [1, 2, 4, 8, 16, 32], [32, 1, 16, 2, 8, 4], [7] * 6, [0] * 6]


def least_by_trying(weights, depth):
    sums = [weighs(weights, lengths) for lengths, _ in trees(len(weights), depth)]
    return min(sums) if sums else None


def ordered_by_trying(weights, bound):
    """Of all ways of the least sum the one whose first runs have as few signs as can be."""
    ways = trees(len(weights), bound)
    return min((weighs(weights, lengths), cuts, lengths) for lengths, cuts in ways)[2]


class LeastTable(unittest.TestCase):
    def test_no_signs(self):
        for bound in range(1, 13):
            told = least_table([], bound)
            self.assertEqual(told, {})
            self.assertIs(type(told), dict)

    def test_one_sign(self):
        self.assertEqual(least_table([7], 1), {(0, 1, 0): 0, (0, 1, 1): 0})
        self.assertEqual(least_table([7], 3), {(0, 1, 0): 0, (0, 1, 1): 0, (0, 1, 2): 0, (0, 1, 3): 0})

    def test_two_signs(self):
        self.assertEqual(least_table([7, 4], 1), {
            (0, 1, 0): 0, (1, 2, 0): 0, (0, 2, 0): None,
            (0, 1, 1): 0, (1, 2, 1): 0, (0, 2, 1): 11,
        })

    def test_three_signs(self):
        told = least_table([5, 1, 2], 2)
        runs = {key: told[key] for key in told if key[1] - key[0] > 1}
        self.assertEqual(runs, {
            (0, 2, 0): None, (1, 3, 0): None, (0, 3, 0): None,
            (0, 2, 1): 6, (1, 3, 1): 3, (0, 3, 1): None,
            (0, 2, 2): 6, (1, 3, 2): 3, (0, 3, 2): 11,
        })

    def test_every_key_and_no_other(self):
        for many in (0, 1, 2, 3, 4, 7):
            for bound in (3, 4, 12):
                keys = {
                    (first, last, depth)
                    for depth in range(bound + 1)
                    for last in range(1, many + 1)
                    for first in range(last)
                }
                told = least_table([3] * many, bound)
                self.assertEqual(set(told), keys)
        self.assertEqual(len(least_table([1] * 24, 12)), 24 * 25 // 2 * 13)
        self.assertEqual(len(least_table([1] * 24, 5)), 24 * 25 // 2 * 6)

    def test_kinds_of_keys_and_values(self):
        for key, value in least_table([3, 1, 2, 8, 0], 3).items():
            self.assertIs(type(key), tuple)
            self.assertEqual([type(number) for number in key], [int, int, int])
            self.assertTrue(value is None or type(value) is int)

    def test_one_sign_is_nothing_at_each_depth(self):
        for weights in WEIGHTS_OF_24:
            told = least_table(list(weights), 12)
            for sign in range(24):
                self.assertEqual([told[(sign, sign + 1, depth)] for depth in range(13)], [0] * 13)

    def test_at_depth_nothing_only_signs_alone(self):
        told = least_table([3, 0, 2, 8], 2)
        for key in told:
            if key[2] == 0:
                self.assertEqual(told[key], 0 if key[1] - key[0] == 1 else None)

    def test_none_just_where_a_run_has_too_many_signs(self):
        for weights in ([0] * 24, [3] * 24, [2 ** at for at in range(24)]):
            told = least_table(weights, 12)
            for first, last, depth in told:
                none = told[(first, last, depth)] is None
                self.assertEqual(none, last - first > 2 ** depth, (first, last, depth))

    def test_just_as_many_signs_as_places(self):
        told = least_table([1, 2, 3, 4, 5, 6, 7, 8, 9], 4)
        self.assertEqual(told[(0, 4, 2)], 20)
        self.assertEqual(told[(1, 9, 3)], 44 * 3)
        self.assertIsNone(told[(0, 5, 2)])
        self.assertIsNone(told[(0, 9, 3)])

    def test_weights_of_nothing(self):
        told = least_table([0, 0, 0], 2)
        self.assertEqual(told[(0, 3, 2)], 0)
        self.assertIsNone(told[(0, 3, 1)])
        self.assertEqual(told[(0, 2, 1)], 0)

    def test_some_way_gives_each_value_and_no_way_a_lesser_one(self):
        for weights in SHORT_LISTS:
            told = least_table(weights, 4)
            for first, last, depth in told:
                self.assertEqual(
                    told[(first, last, depth)], least_by_trying(weights[first:last], depth), (weights, first, last, depth)
                )

    def test_values_do_not_hang_on_what_stands_beside_the_run(self):
        told = least_table([9, 3, 1, 2, 8], 3)
        alone = least_table([3, 1, 2], 3)
        for first, last, depth in alone:
            self.assertEqual(told[(first + 1, last + 1, depth)], alone[(first, last, depth)])

    def test_values_are_made_of_those_of_the_depth_one_less(self):
        for weights in WEIGHTS_OF_24:
            told = least_table(list(weights), 6)
            for first, last, depth in told:
                if 1 < last - first <= 2 ** depth:
                    sums = [
                        told[(first, middle, depth - 1)] + told[(middle, last, depth - 1)]
                        for middle in range(first + 1, last)
                        if told[(first, middle, depth - 1)] is not None
                        and told[(middle, last, depth - 1)] is not None
                    ]
                    self.assertEqual(told[(first, last, depth)], sum(weights[first:last]) + min(sums))

    def test_a_change_of_what_was_told_changes_nothing_else(self):
        told = least_table([3, 1, 2], 2)
        kept = dict(told)
        told[(0, 3, 2)] = 0
        del told[(0, 1, 0)]
        self.assertEqual(least_table([3, 1, 2], 2), kept)
        self.assertEqual(ordered_lengths([3, 1, 2], 2), [1, 2, 2])


class OrderedLengths(unittest.TestCase):
    def test_no_signs(self):
        for bound in range(1, 13):
            self.assertEqual(ordered_lengths([], bound), [])

    def test_the_one_sign_alone(self):
        for bound in range(1, 13):
            for weight in (0, 1, 1000000000000):
                self.assertEqual(ordered_lengths([weight], bound), [1])

    def test_two_signs(self):
        for bound in range(1, 13):
            for weights in ([0, 0], [1, 9], [9, 1], [0, 1000000000000]):
                self.assertEqual(ordered_lengths(weights, bound), [1, 1])

    def test_as_many_signs_as_places(self):
        self.assertEqual(ordered_lengths([1, 2, 4, 8], 2), [2, 2, 2, 2])
        self.assertEqual(ordered_lengths([8, 4, 2, 1], 2), [2, 2, 2, 2])
        self.assertEqual(ordered_lengths([3 ** at for at in range(16)], 4), [4] * 16)

    def test_equal_weights_the_first_run_has_as_few_signs_as_can_be(self):
        self.assertEqual(ordered_lengths([1, 1, 1], 2), [1, 2, 2])
        self.assertEqual(ordered_lengths([1, 1, 1], 5), [1, 2, 2])
        self.assertEqual(ordered_lengths([4, 4, 4, 4], 6), [2, 2, 2, 2])
        self.assertEqual(ordered_lengths([1, 1, 1, 1, 1], 3), [2, 2, 2, 3, 3])
        self.assertEqual(ordered_lengths([6] * 6, 3), [2, 2, 3, 3, 3, 3])

    def test_weights_of_nothing(self):
        self.assertEqual(ordered_lengths([0, 0, 0, 0], 2), [2, 2, 2, 2])
        self.assertEqual(ordered_lengths([0, 0, 0, 0], 3), [1, 2, 3, 3])
        self.assertEqual(ordered_lengths([0, 0, 0, 0], 12), [1, 2, 3, 3])
        self.assertEqual(ordered_lengths([0] * 13, 12), list(range(1, 13)) + [12])

    def test_the_order_of_the_signs_costs(self):
        self.assertEqual(ordered_lengths([1, 9, 1], 2), [1, 2, 2])
        self.assertEqual(ordered_lengths([2, 9, 1], 2), [1, 2, 2])
        self.assertEqual(ordered_lengths([1, 9, 2], 2), [2, 2, 1])
        self.assertEqual(ordered_lengths([1, 9, 1, 9], 3), [2, 2, 2, 2])
        self.assertEqual(ordered_lengths([1, 9, 1, 20], 3), [2, 3, 3, 1])
        self.assertEqual(ordered_lengths([9, 1, 1, 9], 3), [1, 3, 3, 2])

    def test_weights_whose_least_sum_needs_the_bound(self):
        weights = [1, 2, 4, 8, 16]
        self.assertEqual(ordered_lengths(weights, 3), [3, 3, 3, 3, 1])
        self.assertEqual(ordered_lengths(weights, 4), [4, 4, 3, 2, 1])
        self.assertEqual(ordered_lengths(weights, 12), [4, 4, 3, 2, 1])
        long = [2 ** at for at in range(24)]
        for bound in range(5, 13):
            self.assertEqual(max(ordered_lengths(long, bound)), bound)
            self.assertEqual(max(ordered_lengths(long[::-1], bound)), bound)

    def test_all_short_lists(self):
        for weights in SHORT_LISTS:
            if len(weights) < 2:
                continue
            for bound in (1, 2, 3, 4, 5):
                if len(weights) <= 2 ** bound:
                    self.assertEqual(ordered_lengths(weights, bound), ordered_by_trying(weights, bound), weights)

    def test_no_other_lengths_in_order_have_a_lesser_sum(self):
        for many in (2, 3, 4, 5):
            for bound in (1, 2, 3, 4):
                if many > 2 ** bound:
                    continue
                choices = [
                    lengths for lengths in free_choices(many, bound) if refusal(words_in_order, lengths) is None
                ]
                for weights in itertools.product((0, 1, 6), repeat=many):
                    lengths = ordered_lengths(list(weights), bound)
                    self.assertIn(lengths, choices)
                    self.assertEqual(weighs(weights, lengths), min(weighs(weights, other) for other in choices))

    def test_the_sum_is_the_value_of_the_run_of_all(self):
        for weights in [*SHORT_LISTS, *WEIGHTS_OF_24]:
            if len(weights) < 2:
                continue
            for bound in (3, 4, 5, 8, 12):
                if len(weights) <= 2 ** bound:
                    told = least_table(list(weights), bound)[(0, len(weights), bound)]
                    lengths = ordered_lengths(list(weights), bound)
                    self.assertEqual(weighs(weights, lengths), told, (weights, bound))

    def test_lengths_of_many_signs(self):
        for weights in WEIGHTS_OF_24:
            for bound in range(5, 13):
                lengths = ordered_lengths(list(weights), bound)
                self.assertEqual([type(length) for length in lengths], [int] * 24)
                self.assertTrue(all(1 <= length <= bound for length in lengths))
                self.assertIsNone(refusal(words_in_order, lengths))
                self.assertGreaterEqual(weighs(weights, lengths), weighs(weights, free_lengths(list(weights), bound)))

    def test_rising_weights_cost_no_more_in_order(self):
        for weights in SHORT_LISTS:
            risen = sorted(weights)
            self.assertEqual(weighs(risen, ordered_lengths(risen, 4)), weighs(risen, free_lengths(risen, 4)))


if __name__ == "__main__":
    unittest.main()
