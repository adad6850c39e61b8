import unittest
from fractions import Fraction

import houses
from turns.offices import order


def by_sorted_quotients(n, seats):
    """The turns found another way: all quotients at once, the greatest first, of like ones the first party's."""
    quotients = [(-Fraction(s, k), party) for party, s in enumerate(seats) for k in range(1, n + 1)]
    return [party for quotient, party in sorted(quotients)[:n]]


class Turns(unittest.TestCase):
    def check(self, seats, parties):
        n = len(parties)
        self.assertEqual(order(n, seats, [1] * (n * len(seats))), [n] + parties)

    def test_two_parties(self):
        self.check([60, 40], [0, 1, 0])
        self.check([40, 60], [1, 0, 1])
        self.check([30, 100], [1, 1, 1, 0, 1])

    def test_three_parties(self):
        self.check([50, 30, 20], [0, 1, 0, 2, 0])
        self.check([20, 30, 50], [2, 1, 2, 0, 2])

    def test_four_parties_and_five_offices(self):
        self.check([10, 40, 30, 20], [1, 2, 1, 3, 2])
        self.check([200, 200, 200, 200], [0, 1, 2, 3, 0])

    def test_no_offices(self):
        self.check([60, 40], [])
        self.check([1], [])
        self.check([1, 2, 3, 4], [])

    def test_one_party(self):
        self.check([1], [0])
        self.check([200], [0, 0, 0, 0, 0])

    def test_of_like_seats_the_first_party(self):
        self.check([7, 7], [0, 1, 0, 1, 0])
        self.check([1, 7, 7], [1, 2, 1, 2, 1])
        self.check([1, 1, 1], [0, 1, 2, 0, 1])

    def test_of_like_quotients_the_first_party(self):
        self.check([100, 50], [0, 0, 1, 0])
        self.check([50, 100], [1, 0, 1, 1])
        self.check([1, 3], [1, 1, 0, 1])

    def test_quotients_are_not_rounded(self):
        self.check([5, 11], [1, 1, 0])
        self.check([3, 10], [1, 1, 1, 0])
        self.check([66, 199], [1, 1, 1, 0])
        self.check([67, 199], [1, 1, 0, 1])

    def test_a_party_that_gets_no_turn(self):
        self.check([60, 40, 1], [0, 1, 0, 0, 1])
        self.check([200, 1], [0, 0, 0, 0, 0])
        self.check([1, 200], [1, 1, 1, 1, 1])

    def test_what_offices_are_worth_moves_no_turn(self):
        for start in range(20):
            self.assertEqual(order(4, [50, 30, 20], houses.spread(12, start, 50)), [4, 0, 1, 0, 2])

    def test_the_same_as_by_sorted_quotients(self):
        for n, seats, worth in houses.many():
            self.assertEqual(order(n, seats, worth), [n] + by_sorted_quotients(n, seats), (n, seats))


class WhatHolds(unittest.TestCase):
    def test_with_an_office_more_the_turns_go_on_as_they_were(self):
        for seats in houses.seats_of_many():
            before = []
            for n in range(6):
                parties = order(n, seats, [1] * (n * len(seats)))[1:]
                self.assertEqual(parties[:-1], before, (n, seats))
                before = parties

    def test_seats_for_ones_offices_are_no_fewer_than_anothers_for_one_more(self):
        for n, seats, worth in houses.many():
            parties = order(n, seats, worth)[1:]
            had = [parties.count(party) for party in range(len(seats))]
            for one in range(len(seats)):
                for other in range(len(seats)):
                    self.assertGreaterEqual(seats[one] * (had[other] + 1), seats[other] * had[one], (n, seats))


class EveryCall(houses.HoldsForEveryCall, unittest.TestCase):
    def call(self, n, seats, worth):
        return order(n, seats, worth)


if __name__ == "__main__":
    unittest.main()
