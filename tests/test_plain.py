import unittest

import houses
from houses import flat
from turns.offices import order, plain


def by_ranked_offices(n, parties, worth):
    """The offices found another way: each party goes down its own ranking past those that are gone."""
    rankings = [
        sorted(range(n), key=lambda office: (-worth[party * n + office], office))
        for party in range(len(worth) // n if n else 0)
    ]
    taken = []
    for party in parties:
        taken.append([office for office in rankings[party] if office not in taken][0])
    return taken


class Taken(unittest.TestCase):
    def check(self, seats, worths, offices):
        self.assertEqual(plain(len(offices), seats, flat(worths)), [len(offices)] + offices)

    def test_two_parties(self):
        # Turns: 0, 1, 0.
        self.check([60, 40], [[10, 30, 20], [5, 50, 40]], [1, 2, 0])
        # Turns: 1, 0, 1.
        self.check([40, 60], [[10, 30, 20], [5, 50, 40]], [1, 2, 0])
        self.check([40, 60], [[10, 30, 20], [5, 40, 50]], [2, 1, 0])

    def test_three_parties(self):
        # Turns: 0, 1, 0, 2.
        self.check([50, 30, 20], [[1, 7, 6, 8], [3, 9, 5, 2], [4, 4, 4, 4]], [3, 1, 2, 0])

    def test_four_parties_and_five_offices(self):
        # Turns: 1, 2, 1, 3, 2; party 0 gets none.
        self.check(
            [10, 40, 30, 20],
            [[50, 50, 50, 50, 50], [10, 20, 30, 40, 50], [5, 4, 3, 2, 50], [0, 9, 9, 0, 0]],
            [4, 0, 3, 1, 2],
        )
        # Turns: 0, 1, 2, 3, 0.
        self.check(
            [200, 200, 200, 200],
            [[1, 2, 3, 4, 5], [1, 2, 3, 4, 5], [5, 4, 3, 2, 1], [0, 0, 0, 50, 50]],
            [4, 3, 0, 1, 2],
        )

    def test_no_offices(self):
        self.check([60, 40], [[], []], [])
        self.check([1], [[]], [])

    def test_one_party(self):
        self.check([1], [[7]], [0])
        self.check([10], [[3, 1, 4, 1, 5]], [4, 2, 0, 1, 3])

    def test_of_offices_worth_as_much_the_first(self):
        self.check([60, 40], [[20, 20, 20], [20, 20, 20]], [0, 1, 2])
        self.check([60, 40], [[1, 20, 20], [20, 20, 20]], [1, 0, 2])
        self.check([10], [[5, 9, 5, 9, 5]], [1, 3, 0, 2, 4])

    def test_an_office_worth_nothing(self):
        self.check([60, 40], [[0, 30, 20], [0, 50, 40]], [1, 2, 0])
        self.check([60, 40], [[0, 0, 0], [0, 0, 0]], [0, 1, 2])
        self.check([60, 40], [[0, 0, 1], [0, 0, 1]], [2, 0, 1])
        self.check([10], [[0]], [0])

    def test_two_parties_with_as_many_seats(self):
        # Turns: 0, 1, 0, 1.
        self.check([7, 7], [[1, 2, 3, 4], [1, 2, 3, 4]], [3, 2, 1, 0])
        self.check([7, 7], [[4, 3, 2, 1], [3, 4, 1, 2]], [0, 1, 2, 3])

    def test_a_party_that_gets_none(self):
        self.check([200, 1], [[1, 2, 3, 4, 5], [50, 50, 50, 50, 50]], [4, 3, 2, 1, 0])
        self.check([1, 200], [[50, 40, 30, 20, 10], [1, 3, 5, 2, 4]], [2, 4, 1, 3, 0])

    def test_nobody_looks_ahead(self):
        # Party 0 would get more by leaving office 0, which party 1 doesn't want, for its last turn.
        self.check([60, 40], [[10, 9, 0], [0, 10, 9]], [0, 1, 2])

    def test_what_an_office_is_worth_to_others_moves_nothing(self):
        # Party 2 has no turn, and party 1 wants nothing that party 0 takes.
        self.check([60, 40, 1], [[9, 8, 0], [0, 0, 1], [50, 0, 50]], [0, 2, 1])
        self.check([60, 40, 1], [[9, 8, 0], [0, 0, 50], [0, 50, 0]], [0, 2, 1])

    def test_the_same_as_by_ranked_offices(self):
        for n, seats, worth in houses.many():
            parties = order(n, seats, worth)[1:]
            self.assertEqual(plain(n, seats, worth), [n] + by_ranked_offices(n, parties, worth), (n, seats, worth))


class WhatHolds(unittest.TestCase):
    def test_each_office_goes_to_one_party(self):
        for n, seats, worth in houses.many():
            self.assertEqual(sorted(plain(n, seats, worth)[1:]), list(range(n)), (n, seats, worth))


class EveryCall(houses.HoldsForEveryCall, unittest.TestCase):
    def call(self, n, seats, worth):
        return plain(n, seats, worth)


if __name__ == "__main__":
    unittest.main()
