import unittest
from itertools import permutations

import houses
from houses import flat, gets
from turns.offices import ahead, order, plain


def ends_of_all_ways(n, parties, worth):
    """Where each beginning ends if all choose ahead from there on, found by a search of all ways."""
    ends = {way: way for way in permutations(range(n))}
    for turn in reversed(range(n)):
        for beginning in permutations(range(n), turn):
            ways = [ends[beginning + (office,)] for office in range(n) if office not in beginning]
            # Of like ones max takes the first, and the ways stand by the office that is taken next.
            ends[beginning] = max(ways, key=lambda way: gets(parties[turn], parties, way, n, worth))
    return ends


class Taken(unittest.TestCase):
    def check(self, seats, worths, offices):
        worth = flat(worths)
        self.assertEqual(ahead(len(offices), seats, worth), [len(offices)] + offices)

    def check_unlike_plain(self, seats, worths, offices, plain_offices):
        worth = flat(worths)
        self.check(seats, worths, offices)
        self.assertEqual(plain(len(offices), seats, worth), [len(offices)] + plain_offices)
        self.assertNotEqual(offices, plain_offices)

    def test_two_parties(self):
        # Turns: 0, 1, 0. Party 1 leaves office 0 alone, so party 0 takes it last and gets 9 and 10.
        self.check_unlike_plain([60, 40], [[10, 9, 0], [0, 10, 9]], [1, 2, 0], [0, 1, 2])
        # Turns: 1, 0, 1.
        self.check_unlike_plain([40, 60], [[0, 10, 9], [10, 9, 0]], [1, 2, 0], [0, 1, 2])
        # Party 1 wants what party 0 does, so looking ahead moves nothing.
        self.check([60, 40], [[10, 30, 20], [5, 50, 40]], [1, 2, 0])

    def test_three_parties(self):
        # Turns: 0, 1, 0, 2.
        self.check_unlike_plain(
            [50, 30, 20],
            [[10, 9, 0, 0], [1, 8, 2, 0], [4, 4, 4, 4]],
            [1, 2, 0, 3],
            [0, 1, 2, 3],
        )
        # Turns: 0, 1, 2, 0, 1.
        self.check_unlike_plain(
            [50, 40, 30],
            [[9, 5, 8, 4, 9], [2, 3, 5, 9, 9], [0, 7, 4, 2, 6]],
            [4, 2, 1, 0, 3],
            [0, 3, 1, 4, 2],
        )

    def test_four_parties_and_five_offices(self):
        # Turns: 0, 1, 2, 3, 0. Only by office 0 does party 0 get 10 in the end, by any other 7 at most.
        self.check_unlike_plain(
            [200, 200, 200, 200],
            [[3, 0, 7, 7, 6], [3, 3, 3, 9, 5], [0, 4, 6, 4, 7], [9, 8, 6, 8, 8]],
            [0, 3, 4, 1, 2],
            [2, 3, 4, 0, 1],
        )
        # Turns: 1, 2, 1, 3, 2; party 0 gets none.
        self.check_unlike_plain(
            [10, 40, 30, 20],
            [[2, 4, 9, 4, 0], [5, 9, 0, 1, 9], [5, 9, 5, 9, 8], [4, 7, 9, 5, 2]],
            [0, 1, 4, 2, 3],
            [1, 3, 4, 2, 0],
        )

    def test_to_the_end_and_not_one_turn_ahead(self):
        # Turns: 0, 1, 0. One turn ahead only party 1 chooses, and party 0 would take office 1 at once.
        self.check([60, 40], [[3, 10, 0], [2, 1, 5]], [0, 2, 1])
        # Turns: 1, 0, 1, 0, 1. One turn ahead: 3, 4, 2, 0, 1; two: 2, 0, 4, 1, 3; three: 2, 1, 0, 4, 3.
        self.check([40, 60], [[4, 2, 4, 1, 5], [5, 3, 8, 9, 5]], [0, 1, 2, 4, 3])

    def test_those_behind_look_ahead_too(self):
        # Turns: 0, 1, 0, 1. Were those behind to choose plainly, party 0 would take office 3 first.
        self.check_unlike_plain([7, 7], [[3, 4, 8, 6], [4, 0, 1, 8]], [1, 0, 2, 3], [2, 3, 1, 0])
        # Likewise it would take office 0 first.
        self.check_unlike_plain([7, 7], [[5, 1, 9, 3], [2, 6, 3, 2]], [2, 0, 3, 1], [2, 1, 0, 3])

    def test_several_turns_of_one_party_count_together(self):
        # Turns: 0, 1, 0, 0, 1.
        self.check_unlike_plain([60, 40], [[2, 6, 1, 5, 6], [1, 9, 3, 1, 2]], [0, 1, 3, 4, 2], [1, 2, 4, 3, 0])
        # Turns: 1, 1, 1, 0. Party 1 gets 18 if it leaves office 1, with whichever of the others it begins.
        self.check([3, 10], [[9, 0, 0, 0], [5, 2, 7, 6]], [0, 2, 3, 1])

    def test_no_offices(self):
        self.check([60, 40], [[], []], [])
        self.check([1], [[]], [])

    def test_one_party(self):
        self.check([1], [[7]], [0])
        # Whatever it begins with, it gets all in the end.
        self.check([10], [[3, 1, 4, 1, 5]], [0, 1, 2, 3, 4])

    def test_of_offices_worth_as_much_the_first(self):
        self.check([60, 40], [[20, 20, 20], [20, 20, 20]], [0, 1, 2])
        self.check([60, 40], [[1, 20, 20], [20, 20, 20]], [1, 0, 2])
        self.check([40, 30, 20], [[1, 9, 9], [9, 1, 9], [5, 5, 5]], [1, 0, 2])

    def test_of_choices_that_bring_as_much_in_the_end_the_first(self):
        # Turns: 0, 1, 0. Party 0 gets 20 by office 0 as well as by office 2.
        self.check_unlike_plain([60, 40], [[9, 4, 11], [5, 12, 11]], [0, 1, 2], [2, 1, 0])
        # Turns: 0, 1, 2, 3, 0. Party 0 gets 12 by office 2 as well as by office 4.
        self.check_unlike_plain(
            [200, 200, 200, 200],
            [[7, 1, 4, 3, 8], [7, 9, 6, 6, 9], [1, 6, 7, 8, 6], [9, 1, 3, 7, 4]],
            [2, 1, 3, 0, 4],
            [4, 1, 3, 0, 2],
        )

    def test_an_office_worth_nothing(self):
        # Turns: 0, 1, 0. Party 0 gets 5 in the end, whether it takes the office worth nothing first or last.
        self.check_unlike_plain([60, 40], [[0, 5, 5], [0, 5, 5]], [0, 1, 2], [1, 2, 0])
        self.check([60, 40], [[0, 30, 20], [0, 50, 40]], [1, 2, 0])
        self.check([60, 40], [[0, 0, 0], [0, 0, 0]], [0, 1, 2])
        self.check([60, 40], [[0, 0, 1], [0, 0, 1]], [2, 0, 1])
        self.check([10], [[0]], [0])

    def test_two_parties_with_as_many_seats(self):
        # Turns: 0, 1.
        self.check([7, 7], [[1, 2], [1, 2]], [1, 0])
        # Turns: 1, 2, 1. The party with fewer seats has no turn.
        self.check([1, 7, 7], [[9, 9, 9], [10, 9, 0], [0, 10, 9]], [1, 2, 0])
        # Turns: 0, 1, 0, 1.
        self.check([7, 7], [[2, 2, 6, 4], [1, 5, 3, 6]], [0, 1, 2, 3])

    def test_a_party_that_gets_none(self):
        self.check([200, 1], [[1, 2, 3, 4, 5], [50, 50, 50, 50, 50]], [0, 1, 2, 3, 4])
        self.check([1, 200], [[50, 40, 30, 20, 10], [1, 3, 5, 2, 4]], [0, 1, 2, 3, 4])
        # What the offices are worth to it moves nothing.
        self.check([60, 40, 1], [[10, 9, 0], [0, 10, 9], [50, 0, 50]], [1, 2, 0])
        self.check([60, 40, 1], [[10, 9, 0], [0, 10, 9], [0, 50, 0]], [1, 2, 0])

    def test_the_same_as_by_a_search_of_all_ways(self):
        for n, seats, worth in [*houses.many(), *houses.near_those_with_pairs()]:
            parties = order(n, seats, worth)[1:]
            ends = ends_of_all_ways(n, parties, worth)
            self.assertEqual(ahead(n, seats, worth), [n, *ends[()]], (n, seats, worth))


class WhatHolds(unittest.TestCase):
    def test_each_office_goes_to_one_party(self):
        for n, seats, worth in [*houses.many(), *houses.near_those_with_pairs()]:
            self.assertEqual(sorted(ahead(n, seats, worth)[1:]), list(range(n)), (n, seats, worth))

    def test_nobody_would_at_their_turn_get_more_by_another_office(self):
        for n, seats, worth in [*houses.many(), *houses.near_those_with_pairs()]:
            parties = order(n, seats, worth)[1:]
            ends = ends_of_all_ways(n, parties, worth)
            way = tuple(ahead(n, seats, worth)[1:])
            for turn, party in enumerate(parties):
                own = gets(party, parties, way, n, worth)
                for office in set(way[turn + 1:]):
                    other = gets(party, parties, ends[way[:turn] + (office,)], n, worth)
                    self.assertLessEqual(other, own, (n, seats, worth, turn, office))


class EveryCall(houses.HoldsForEveryCall, unittest.TestCase):
    def call(self, n, seats, worth):
        return ahead(n, seats, worth)


if __name__ == "__main__":
    unittest.main()
