import unittest

import houses
from houses import flat, gets
from turns.offices import alone, order


def worth_most(free, party, n, worth):
    return sorted(free, key=lambda office: (-worth[party * n + office], office))[0]


def all_ways(n, i, parties, worth):
    """Every way in which the offices can go if party i takes what it will and all others choose plainly."""
    ways = [[]]
    for party in parties:
        longer = []
        for way in ways:
            free = [office for office in range(n) if office not in way]
            choices = free if party == i else [worth_most(free, party, n, worth)]
            longer += [way + [office] for office in choices]
        ways = longer
    return ways


def most_of_all_ways(n, i, parties, worth):
    return max(gets(i, parties, way, n, worth) for way in all_ways(n, i, parties, worth))


def plainly(n, i, parties, worth):
    """What i gets if all choose plainly: there is but one way if nobody takes what they will."""
    return gets(i, parties, all_ways(n, None, parties, worth)[0], n, worth)


class Gets(unittest.TestCase):
    def check(self, seats, worths, answers):
        """The answers are those for each party, one behind another."""
        worth = flat(worths)
        for i, answer in enumerate(answers):
            self.assertEqual(alone(len(worths[0]), i, seats, worth), answer, i)
        self.assertEqual(len(answers), len(seats))

    def test_two_parties(self):
        # Turns: 0, 1, 0. Party 1 leaves office 0 alone, so party 0 does well to take office 1 first.
        self.check([60, 40], [[10, 9, 0], [0, 10, 9]], [[19, 10], [10, 10]])
        # Turns: 1, 0, 1.
        self.check([40, 60], [[0, 10, 9], [10, 9, 0]], [[10, 10], [19, 10]])
        # Both want the same, and who looks ahead gains nothing.
        self.check([60, 40], [[10, 30, 20], [5, 50, 40]], [[40, 40], [40, 40]])

    def test_three_parties(self):
        # Turns: 0, 1, 0, 2.
        self.check([50, 30, 20], [[10, 9, 0, 0], [1, 8, 2, 0], [4, 4, 4, 4]], [[19, 10], [8, 8], [4, 4]])
        # Turns: 0, 1, 2, 0, 1. Nobody else takes office 3, so party 1 does well to take office 4 first.
        self.check(
            [50, 40, 30],
            [[9, 5, 8, 4, 9], [2, 3, 5, 9, 9], [0, 7, 4, 2, 6]],
            [[18, 18], [18, 14], [7, 7]],
        )

    def test_four_parties_and_five_offices(self):
        # Turns: 0, 1, 2, 3, 0.
        self.check(
            [200, 200, 200, 200],
            [[3, 0, 7, 7, 6], [3, 3, 3, 9, 5], [0, 4, 6, 4, 7], [9, 8, 6, 8, 8]],
            [[10, 7], [9, 9], [7, 7], [9, 9]],
        )
        # Turns: 1, 2, 1, 3, 2; party 0 gets none.
        self.check(
            [10, 40, 30, 20],
            [[2, 4, 9, 4, 0], [5, 9, 0, 1, 9], [5, 9, 5, 9, 8], [4, 7, 9, 5, 2]],
            [[0, 0], [18, 18], [17, 14], [9, 9]],
        )

    def test_one_turn_ahead_is_not_enough(self):
        # Turns: 0, 1, 0, 1, 0. Looking one turn ahead brings party 0 only 17, two or three turns 22.
        self.assertEqual(alone(5, 0, [7, 7], [0, 9, 8, 5, 8, 6, 1, 8, 7, 0]), [25, 17])
        # Turns: 1, 0, 1, 0, 1. Looking one turn ahead brings party 1 only 17, two or three turns 18.
        self.assertEqual(alone(5, 1, [40, 60], [6, 3, 5, 6, 0, 7, 8, 1, 2, 8]), [23, 17])

    def test_the_others_choose_plainly(self):
        # Turns: 0, 1, 0, 1. Were both to look ahead, party 0 would get 14 in the first house, party 1 10 in the other.
        self.assertEqual(alone(4, 0, [7, 7], [5, 3, 9, 6, 2, 4, 3, 5]), [15, 14])
        self.assertEqual(alone(4, 1, [7, 7], [0, 6, 6, 7, 9, 7, 1, 1]), [16, 10])

    def test_several_turns_of_one_party_count_together(self):
        # Turns: 1, 1, 1, 0.
        self.check([3, 10], [[9, 0, 0, 0], [5, 2, 7, 6]], [[0, 0], [18, 18]])
        # Turns: 0, 1, 0, 0, 1. Party 0 gets 8, 9 and 9 if it first takes what party 1 would.
        self.check([60, 40], [[9, 9, 8, 0, 0], [0, 5, 7, 6, 1]], [[26, 18], [8, 8]])

    def test_no_offices(self):
        self.check([60, 40], [[], []], [[0, 0], [0, 0]])
        self.check([1], [[]], [[0, 0]])

    def test_one_party(self):
        self.check([1], [[7]], [[7, 7]])
        self.check([10], [[3, 1, 4, 1, 5]], [[14, 14]])

    def test_offices_worth_as_much(self):
        # Turns: 0, 1, 0.
        self.check([60, 40], [[20, 20, 20], [20, 20, 20]], [[40, 40], [20, 20]])
        # Plainly party 0 takes the first of two, and party 1 the other.
        self.check([60, 40], [[5, 5, 0], [0, 9, 1]], [[10, 5], [9, 9]])
        # Behind office 2, party 1 takes office 0, the first of two.
        self.check([60, 40], [[0, 6, 8], [7, 7, 1]], [[14, 14], [7, 7]])
        self.check([60, 40], [[6, 0, 8], [7, 7, 1]], [[14, 8], [7, 7]])

    def test_an_office_worth_nothing(self):
        self.check([60, 40], [[0, 0, 1], [0, 0, 1]], [[1, 1], [0, 0]])
        self.check([60, 40], [[0, 0, 0], [0, 0, 0]], [[0, 0], [0, 0]])
        self.check([60, 40], [[0, 30, 20], [0, 50, 40]], [[30, 30], [40, 40]])
        self.check([10], [[0]], [[0, 0]])

    def test_two_parties_with_as_many_seats(self):
        # Turns: 0, 1.
        self.check([7, 7], [[1, 2], [1, 2]], [[2, 2], [1, 1]])
        # Turns: 1, 2, 1.
        self.check([1, 7, 7], [[9, 9, 9], [10, 9, 0], [0, 10, 9]], [[0, 0], [19, 10], [10, 10]])

    def test_a_party_that_gets_none(self):
        self.check([200, 1], [[1, 2, 3, 4, 5], [50, 50, 50, 50, 50]], [[15, 15], [0, 0]])
        self.check([1, 200], [[50, 40, 30, 20, 10], [1, 3, 5, 2, 4]], [[0, 0], [15, 15]])
        self.check([60, 40, 1], [[10, 9, 0], [0, 10, 9], [50, 0, 50]], [[19, 10], [10, 10], [0, 0]])

    def test_the_greatest_worths(self):
        self.check([200], [[50] * 5], [[250, 250]])
        self.check([200, 200], [[50] * 5, [50] * 5], [[150, 150], [100, 100]])

    def test_the_same_as_by_a_search_of_all_ways(self):
        for n, seats, worth in houses.many():
            parties = order(n, seats, worth)[1:]
            for i in range(len(seats)):
                answer = [most_of_all_ways(n, i, parties, worth), plainly(n, i, parties, worth)]
                self.assertEqual(alone(n, i, seats, worth), answer, (n, i, seats, worth))


class Refused(unittest.TestCase):
    def test_there_is_no_party_i(self):
        for n, seats, worth in houses.at_the_edge():
            last = len(seats) - 1
            self.assertEqual(len(alone(n, last, seats, worth)), 2)
            for i in (last + 1, last + 2, 8, houses.GREATEST):
                self.assertEqual(alone(n, i, seats, worth), [-2], (n, i, seats, worth))

    def test_every_number_of_parties(self):
        for parties in range(1, 5):
            for i in range(6):
                answer = alone(2, i, [10] * parties, [1] * (2 * parties))
                self.assertEqual(answer == [-2], i >= parties, (parties, i))

    def test_what_is_not_as_told_is_refused_first(self):
        for n, seats, worth in houses.refused():
            for i in (0, len(seats), 4, 5, houses.GREATEST):
                self.assertEqual(alone(n, i, seats, worth), [-22], (n, i, seats, worth))


class WhatHolds(unittest.TestCase):
    def test_who_looks_ahead_alone_gets_no_less(self):
        gained = 0
        for n, seats, worth in houses.many():
            for i in range(len(seats)):
                looking, otherwise = alone(n, i, seats, worth)
                self.assertGreaterEqual(looking, otherwise, (n, i, seats, worth))
                gained += looking > otherwise
        # Among so many houses there are those where it gets more.
        self.assertGreater(gained, 0)


class EveryCall(houses.HoldsForEveryCall):
    def check_answered(self, house, answer):
        self.assertEqual(len(answer), 2, house)
        self.assertGreaterEqual(min(answer), 0, house)


class EveryCallForTheFirstParty(EveryCall, unittest.TestCase):
    def call(self, n, seats, worth):
        return alone(n, 0, seats, worth)


class EveryCallForTheLastParty(EveryCall, unittest.TestCase):
    def call(self, n, seats, worth):
        return alone(n, max(len(seats) - 1, 0), seats, worth)


class EveryCallForNoParty(EveryCall, unittest.TestCase):
    def call(self, n, seats, worth):
        return alone(n, len(seats), seats, worth)

    def check_answered(self, house, answer):
        self.assertEqual(answer, [-2], house)


if __name__ == "__main__":
    unittest.main()
