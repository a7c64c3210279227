import itertools
import unittest

from shortlimit.counts import counted, room
from shortlimit.packets import free_lengths, packet_rows
from tests.helper import free_choices, weighs

WEIGHTS_OF_24 = (
    [5] * 24, [0] * 24, [2 ** at for at in range(24)], [2 ** at for at in range(23, -1, -1)],
    [(at * 7919) % 101 for at in range(24)], [1000000000000] * 12 + [0] * 12, [1, 1, 2, 3, 5, 8, 13, 21] * 3,
)


def rows_by_ranks(weights, bound):
    """The rows as the document tells them: each packet with its rank, the least taken in turn."""
    rows = []
    ahead = []
    for _ in range(bound):
        left = [(weight, 0, sign, [sign]) for sign, weight in enumerate(weights)]
        at = 0
        while at + 1 < len(ahead):
            one, other = ahead[at], ahead[at + 1]
            left.append((one[0] + other[0], 1, at, list(one[1]) + list(other[1])))
            at += 2
        row = []
        while left:
            best = 0
            for place in range(len(left)):
                if left[place][:3] < left[best][:3]:
                    best = place
            weight, _, _, signs = left.pop(best)
            row.append((weight, tuple(sorted(signs))))
        rows.append(row)
        ahead = row
    return rows


class PacketRows(unittest.TestCase):
    def test_no_signs(self):
        for bound in range(1, 13):
            self.assertEqual(packet_rows([], bound), [[]] * bound)

    def test_one_sign(self):
        for bound in range(1, 13):
            self.assertEqual(packet_rows([7], bound), [[(7, (0,))]] * bound)

    def test_two_signs(self):
        alone = [(2, (1,)), (3, (0,))]
        self.assertEqual(packet_rows([3, 2], 1), [alone])
        self.assertEqual(packet_rows([3, 2], 2), [alone, alone + [(5, (0, 1))]])
        self.assertEqual(packet_rows([3, 2], 3), [alone, alone + [(5, (0, 1))], alone + [(5, (0, 1))]])

    def test_three_signs(self):
        self.assertEqual(packet_rows([5, 1, 2], 2), [
            [(1, (1,)), (2, (2,)), (5, (0,))],
            [(1, (1,)), (2, (2,)), (3, (1, 2)), (5, (0,))],
        ])

    def test_as_many_rows_as_the_bound_says(self):
        for bound in range(1, 13):
            for weights in ([], [1], [1, 2]):
                self.assertEqual(len(packet_rows(weights, bound)), bound)
        for bound in range(5, 13):
            self.assertEqual(len(packet_rows([1] * 24, bound)), bound)

    def test_more_rows_begin_with_the_same_ones(self):
        for weights in ([3, 1, 2], [1, 1, 1, 1], [9, 0, 4, 4]):
            for bound in range(2, 12):
                self.assertEqual(packet_rows(weights, bound + 1)[:bound], packet_rows(weights, bound))

    def test_equal_weights_own_packets_first_then_pairs_in_order(self):
        self.assertEqual(packet_rows([1, 1, 2, 2], 2)[1], [
            (1, (0,)), (1, (1,)), (2, (2,)), (2, (3,)), (2, (0, 1)), (4, (2, 3)),
        ])
        own = [(0, (0,)), (0, (1,)), (0, (2,)), (0, (3,))]
        self.assertEqual(packet_rows([0, 0, 0, 0], 3), [
            own,
            own + [(0, (0, 1)), (0, (2, 3))],
            own + [(0, (0, 1)), (0, (2, 3)), (0, (0, 1, 2, 3))],
        ])

    def test_an_odd_last_packet_is_left_out(self):
        own = [(4, (0,)), (4, (1,)), (4, (2,))]
        self.assertEqual(packet_rows([4, 4, 4], 3), [
            own, own + [(8, (0, 1))], own + [(8, (0, 1)), (12, (0, 1, 2))],
        ])

    def test_the_numbers_in_a_packet_rise(self):
        self.assertEqual(packet_rows([3, 2, 1], 3), [
            [(1, (2,)), (2, (1,)), (3, (0,))],
            [(1, (2,)), (2, (1,)), (3, (0,)), (3, (1, 2))],
            [(1, (2,)), (2, (1,)), (3, (0,)), (3, (1, 2)), (6, (0, 1, 2))],
        ])

    def test_a_sign_more_than_once_in_a_packet(self):
        self.assertEqual(packet_rows([0, 0, 0, 9], 3), [
            [(0, (0,)), (0, (1,)), (0, (2,)), (9, (3,))],
            [(0, (0,)), (0, (1,)), (0, (2,)), (0, (0, 1)), (9, (3,)), (9, (2, 3))],
            [(0, (0,)), (0, (1,)), (0, (2,)), (0, (0, 1)), (0, (0, 1, 2)), (9, (3,)), (18, (2, 3, 3))],
        ])

    def test_all_short_lists(self):
        for many in range(5):
            for weights in itertools.product((0, 1, 2, 3), repeat=many):
                for bound in (2, 3, 5):
                    self.assertEqual(packet_rows(list(weights), bound), rows_by_ranks(weights, bound), weights)

    def test_long_lists(self):
        for weights in WEIGHTS_OF_24:
            for bound in (5, 8, 12):
                self.assertEqual(packet_rows(list(weights), bound), rows_by_ranks(weights, bound))

    def test_kinds_of_what_is_told(self):
        for row in packet_rows([3, 1, 2], 4):
            self.assertIs(type(row), list)
            for packet in row:
                self.assertIs(type(packet), tuple)
                self.assertEqual(len(packet), 2)
                self.assertEqual((type(packet[0]), type(packet[1])), (int, tuple))
                self.assertEqual({type(sign) for sign in packet[1]}, {int})

    def test_each_row_is_a_list_of_its_own(self):
        for weights in ([], [7], [3, 2], [1, 1, 1]):
            for changed in range(4):
                rows = packet_rows(weights, 4)
                kept = packet_rows(weights, 4)
                rows[changed].append("x")
                for at in range(4):
                    self.assertEqual(rows[at], kept[at] + ["x"] if at == changed else kept[at])
                self.assertEqual(packet_rows(weights, 4), kept)


class FreeLengths(unittest.TestCase):
    def test_no_signs(self):
        for bound in range(1, 13):
            self.assertEqual(free_lengths([], bound), [])

    def test_the_one_sign_alone(self):
        for bound in range(1, 13):
            for weight in (0, 1, 1000000000000):
                self.assertEqual(free_lengths([weight], bound), [1])

    def test_two_signs(self):
        for bound in range(1, 13):
            for weights in ([0, 0], [1, 9], [9, 1], [0, 1000000000000]):
                self.assertEqual(free_lengths(weights, bound), [1, 1])

    def test_as_many_signs_as_places(self):
        self.assertEqual(free_lengths([1, 2, 4, 8], 2), [2, 2, 2, 2])
        self.assertEqual(free_lengths([0, 0, 0, 1000000000000], 2), [2, 2, 2, 2])
        self.assertEqual(free_lengths([2 ** at for at in range(8)], 3), [3] * 8)
        self.assertEqual(free_lengths([3 ** at for at in range(16)], 4), [4] * 16)

    def test_equal_weights(self):
        self.assertEqual(free_lengths([1, 1, 1], 2), [2, 2, 1])
        self.assertEqual(free_lengths([1, 1, 1], 5), [2, 2, 1])
        self.assertEqual(free_lengths([4, 4, 4, 4], 6), [2, 2, 2, 2])
        self.assertEqual(free_lengths([0] * 5, 3), [3, 3, 2, 2, 2])
        self.assertEqual(free_lengths([7] * 24, 5), [5] * 16 + [4] * 8)
        self.assertEqual(free_lengths([7] * 24, 12), [5] * 16 + [4] * 8)

    def test_equal_weights_own_packets_ahead_of_pairs(self):
        self.assertEqual(free_lengths([1, 1, 2, 2], 3), [2, 2, 2, 2])
        self.assertEqual(free_lengths([2, 1, 1, 2], 3), [2, 2, 2, 2])

    def test_weights_in_doubling_steps(self):
        weights = [1, 2, 4, 8, 16]
        self.assertEqual(free_lengths(weights, 3), [3, 3, 3, 3, 1])
        self.assertEqual(free_lengths(weights, 4), [4, 4, 3, 2, 1])
        self.assertEqual(free_lengths(weights, 12), [4, 4, 3, 2, 1])
        self.assertEqual(free_lengths(weights[::-1], 3), [1, 3, 3, 3, 3])
        long = [2 ** at for at in range(24)]
        self.assertEqual(max(free_lengths(long, 12)), 12)
        self.assertEqual(max(free_lengths(long, 5)), 5)
        self.assertEqual(free_lengths([2 ** at for at in range(13)], 12), [12] + list(range(12, 0, -1)))
        self.assertEqual(max(free_lengths([2 ** at for at in range(14)], 12)), 12)

    def test_weights_in_any_order(self):
        self.assertEqual(free_lengths([5, 1, 2], 2), [1, 2, 2])
        self.assertEqual(free_lengths([1, 5, 2], 2), [2, 1, 2])
        self.assertEqual(free_lengths([1, 2, 5], 2), [2, 2, 1])

    def test_weights_of_nothing(self):
        self.assertEqual(free_lengths([0, 0, 0], 3), [2, 2, 1])
        self.assertEqual(free_lengths([9, 0, 0, 9], 3), [2, 3, 3, 1])

    def check_counts(self, weights, bound):
        """How often a sign stands in the taken packets, their weight, and the counted sum."""
        lengths = free_lengths(weights, bound)
        taken = packet_rows(weights, bound)[-1][:2 * len(weights) - 2]
        self.assertEqual(len(taken), 2 * len(weights) - 2)
        stands = [sum([packet[1].count(sign) for packet in taken]) for sign in range(len(weights))]
        self.assertEqual(lengths, stands, (weights, bound))
        self.assertEqual(weighs(weights, lengths), sum([packet[0] for packet in taken]), (weights, bound))
        self.assertEqual(counted(lengths, bound), room(bound), (weights, bound))
        self.assertEqual([type(length) for length in lengths], [int] * len(weights))

    def test_what_is_taken(self):
        for many in (2, 3, 4, 5):
            for weights in itertools.product((0, 1, 2, 5), repeat=many):
                for bound in (1, 2, 3, 4):
                    if many <= 2 ** bound:
                        self.check_counts(list(weights), bound)

    def test_what_is_taken_of_many(self):
        for weights in WEIGHTS_OF_24:
            for bound in range(5, 13):
                self.check_counts(list(weights), bound)

    def test_no_other_lengths_have_a_lesser_sum(self):
        for many in (2, 3, 4, 5):
            for bound in (1, 2, 3, 4):
                choices = free_choices(many, bound)
                if many > 2 ** bound:
                    self.assertEqual(choices, [])
                    continue
                for weights in itertools.combinations_with_replacement((0, 1, 2, 5, 13), many):
                    for turned in (list(weights), list(weights)[::-1]):
                        lengths = free_lengths(turned, bound)
                        self.assertIn(lengths, choices)
                        self.assertEqual(weighs(turned, lengths), min(weighs(turned, other) for other in choices))

    def test_a_lower_bound_never_has_a_lesser_sum(self):
        for weights in WEIGHTS_OF_24:
            sums = [weighs(weights, free_lengths(list(weights), bound)) for bound in range(5, 13)]
            self.assertEqual(sums, sorted(sums, reverse=True))


if __name__ == "__main__":
    unittest.main()
