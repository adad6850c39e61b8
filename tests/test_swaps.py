import unittest

import houses
from houses import flat
from turns.offices import ahead, order, pairs_to_swap, plain, swaps


def told(pairs):
    return [len(pairs)] + [office for pair in pairs for office in pair]


def pairs_by_words(n, call, seats, worth):
    """The pairs as the document tells them, from whose turn it is and which office is taken."""
    has = dict(zip(call(n, seats, worth)[1:], order(n, seats, worth)[1:]))
    both_ways = {
        (own, other)
        for own, party in has.items()
        for other, holder in has.items()
        if holder != party and worth[party * n + other] > worth[party * n + own]
    }
    return sorted(pair for pair in both_ways if pair[0] < pair[1] and pair[::-1] in both_ways)


class Pairs(unittest.TestCase):
    def check(self, seats, worths, pairs):
        """The pairs if all choose ahead; plainly there is none."""
        n = len(worths[0])
        self.assertEqual(swaps(n, 0, seats, flat(worths)), [0])
        self.assertEqual(swaps(n, 1, seats, flat(worths)), told(pairs), (seats, worths))

    def test_one_pair_and_several(self):
        for seats, worths, pairs in houses.WITH_PAIRS:
            self.check(seats, worths, pairs)

    def test_number_by_number(self):
        self.assertEqual(swaps(4, 1, [7, 7, 7], [6, 5, 2, 4, 3, 9, 8, 6, 6, 9, 0, 3]), [1, 0, 1])
        self.assertEqual(swaps(5, 1, [60, 40], [5, 12, 20, 6, 2, 1, 3, 3, 3, 23]), [2, 0, 4, 3, 4])

    def test_no_pair(self):
        # Turns: 0, 1, 0. Party 1 would have office 1, but to party 0 office 2 is worth less.
        self.check([60, 40], [[10, 9, 0], [0, 10, 9]], [])
        self.check([40, 60], [[0, 10, 9], [10, 9, 0]], [])
        # Turns: 0, 1, 0, 2.
        self.check([50, 30, 20], [[10, 9, 0, 0], [1, 8, 2, 0], [4, 4, 4, 4]], [])
        # Turns: 1, 2, 1, 3, 2.
        self.check(
            [10, 40, 30, 20],
            [[2, 4, 9, 4, 0], [5, 9, 0, 1, 9], [5, 9, 5, 9, 8], [4, 7, 9, 5, 2]],
            [],
        )

    def test_three_who_would_only_swap_all_round_are_no_pair(self):
        # Turns: 1, 2, 1, 3, 2. Plainly 4, 1, 3, 2, 0, ahead 1, 2, 4, 3, 0: that brings all three less.
        # Party 1 would rather have office 3, party 3 office 2 and party 2 office 1.
        self.check(
            [10, 40, 30, 20],
            [[8, 5, 9, 4, 8], [3, 3, 0, 6, 8], [1, 6, 4, 2, 3], [6, 7, 9, 7, 1]],
            [],
        )

    def test_one_partys_own_offices(self):
        self.check([10], [[3, 1, 4, 1, 5]], [])
        # Turns: 1, 1, 1, 0. Party 1 has offices 0, 2 and 3, worth unlike to it.
        self.check([3, 10], [[9, 0, 0, 0], [5, 2, 7, 6]], [])
        # Turns: 0, 0, 0, 0, 0.
        self.check([200, 1], [[1, 2, 3, 4, 5], [5, 4, 3, 2, 1]], [])

    def test_worth_as_much_is_not_worth_more(self):
        # Turns: 0, 1. Party 1 would rather have office 0, to party 0 they are worth as much.
        self.check([7, 7], [[5, 5], [9, 1]], [])
        self.check([7, 7], [[5, 5], [5, 5]], [])
        # Turns: 0, 1, 0. Office 0 goes to party 0, and both others are worth as much to it.
        self.check([60, 40], [[20, 20, 20], [20, 20, 20]], [])
        # Turns: 0, 1, 2, 0. Offices: 1, 2, 0, 3. To one of parties 0 and 2, offices 0 and 1 are worth as much.
        self.check([7, 7, 7], [[5, 5, 2, 4], [3, 9, 8, 6], [6, 9, 0, 3]], [])
        self.check([7, 7, 7], [[6, 6, 2, 4], [3, 9, 8, 6], [6, 9, 0, 3]], [])
        self.check([7, 7, 7], [[6, 5, 2, 4], [3, 9, 8, 6], [6, 6, 0, 3]], [])
        self.check([7, 7, 7], [[6, 5, 2, 4], [3, 9, 8, 6], [9, 9, 0, 3]], [])
        # To neither of them.
        self.check([7, 7, 7], [[6, 5, 2, 4], [3, 9, 8, 6], [6, 9, 0, 3]], [(0, 1)])
        # Turns: 0, 1, 0, 0, 1. Offices: 4, 0, 1, 2, 3. To party 0 office 0 is worth as much as office 4, then one more.
        self.check([60, 40], [[2, 12, 20, 6, 2], [1, 3, 3, 3, 23]], [(3, 4)])
        self.check([60, 40], [[3, 12, 20, 6, 2], [1, 3, 3, 3, 23]], [(0, 4), (3, 4)])

    def test_no_offices(self):
        self.check([1], [[]], [])
        self.check([60, 40], [[], []], [])
        self.check([1, 2, 3, 4], [[], [], [], []], [])

    def test_one_party(self):
        self.check([1], [[7]], [])
        self.check([200], [[0, 50, 0, 50, 0]], [])

    def test_an_office_worth_nothing(self):
        self.check([60, 40], [[0, 30, 20], [0, 50, 40]], [])
        self.check([60, 40], [[0, 0, 0], [0, 0, 0]], [])
        self.check([10], [[0]], [])
        # Turns: 0, 2, 0, 0, 2. Party 0 takes office 4 first, worth nothing to it, and would swap it for office 3.
        self.check([37, 1, 20], [[0, 3, 3, 2, 0], [2, 2, 12, 0, 1], [0, 2, 2, 2, 16]], [(3, 4)])

    def test_a_party_that_gets_none_has_nothing_to_swap(self):
        # Turns: 0, 1, 0. Party 2 would rather have anything.
        self.check([60, 40, 1], [[10, 9, 0], [0, 10, 9], [50, 50, 50]], [])
        # What the offices are worth to it moves no pair.
        for other in ([0] * 5, [50] * 5, [9, 0, 9, 0, 9], [0, 9, 0, 9, 0]):
            self.check([60, 40, 1], [[2, 9, 11, 6, 1], [4, 7, 7, 7, 16], other], [(0, 4), (3, 4)])

    def test_by_the_lesser_office_then_by_the_greater(self):
        # Parties 0 and 1 want each other's, whichever they have.
        worth = [0, 0, 9, 9, 9, 9, 0, 0]
        self.assertEqual(pairs_to_swap(4, [0, 0, 1, 1], worth), [(0, 2), (0, 3), (1, 2), (1, 3)])
        # Each of four parties would rather have any other's than its own.
        worth = [0, 9, 9, 9, 9, 0, 9, 9, 9, 9, 0, 9, 9, 9, 9, 0]
        self.assertEqual(pairs_to_swap(4, [0, 1, 2, 3], worth), [(0, 1), (0, 2), (0, 3), (1, 2), (1, 3), (2, 3)])
        # Parties 0 and 3 want each other's, and so do parties 1 and 2.
        worth = [0, 0, 0, 9, 0, 0, 9, 0, 0, 9, 0, 0, 9, 0, 0, 0]
        self.assertEqual(pairs_to_swap(4, [0, 1, 2, 3], worth), [(0, 3), (1, 2)])

    def test_what_is_told_agrees_with_the_turns_and_the_offices_taken(self):
        with_pairs = 0
        for n, seats, worth in [*houses.many(), *houses.near_those_with_pairs()]:
            for k, call in enumerate((plain, ahead)):
                pairs = pairs_by_words(n, call, seats, worth)
                self.assertEqual(swaps(n, k, seats, worth), told(pairs), (n, k, seats, worth))
                with_pairs += len(pairs) > 0
        self.assertGreater(with_pairs, 1000)


class Refused(unittest.TestCase):
    def test_k_is_above_1(self):
        for n, seats, worth in houses.at_the_edge():
            for k in (2, 3, 22, houses.GREATEST):
                self.assertEqual(swaps(n, k, seats, worth), [-22], (n, k, seats, worth))

    def test_k_and_the_house_together(self):
        for n, seats, worth in houses.refused():
            for k in (2, houses.GREATEST):
                self.assertEqual(swaps(n, k, seats, worth), [-22], (n, k, seats, worth))


class WhatHolds(unittest.TestCase):
    def test_plainly_no_two_would_rather_have_each_others(self):
        for n, seats, worth in [*houses.many(), *houses.near_those_with_pairs()]:
            self.assertEqual(swaps(n, 0, seats, worth), [0], (n, seats, worth))


class EveryCall(houses.HoldsForEveryCall):
    def check_answered(self, house, answer):
        self.assertGreaterEqual(min(answer), 0, house)
        self.assertEqual(len(answer), 1 + 2 * answer[0], house)


class EveryCallPlainly(EveryCall, unittest.TestCase):
    def call(self, n, seats, worth):
        return swaps(n, 0, seats, worth)


class EveryCallAhead(EveryCall, unittest.TestCase):
    def call(self, n, seats, worth):
        return swaps(n, 1, seats, worth)


class EveryCallWithAGreatK(EveryCall, unittest.TestCase):
    def call(self, n, seats, worth):
        return swaps(n, 2, seats, worth)

    def check_answered(self, house, answer):
        self.assertEqual(answer, [-22], house)


if __name__ == "__main__":
    unittest.main()
