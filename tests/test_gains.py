import unittest

import houses
from houses import flat, gets
from turns.offices import ahead, gains, order, plain


class Gets(unittest.TestCase):
    def check(self, seats, worths, plainly, looking):
        """What each party gets, party by party, if all choose plainly and if all choose ahead."""
        n = len(worths[0])
        self.assertEqual(gains(n, 0, seats, flat(worths)), [len(seats)] + plainly)
        self.assertEqual(gains(n, 1, seats, flat(worths)), [len(seats)] + looking)

    def test_two_parties(self):
        # Turns: 0, 1, 0. Ahead party 0 takes offices 1 and 0, and party 1 has but office 2.
        self.check([60, 40], [[10, 9, 0], [0, 10, 9]], [10, 10], [19, 9])
        # Turns: 1, 0, 1. They are told by number, though party 1 chooses first.
        self.check([40, 60], [[0, 10, 9], [10, 9, 0]], [10, 10], [9, 19])
        # Turns: 0, 1, 0. Plainly and ahead the offices go the same way.
        self.check([60, 40], [[10, 30, 20], [5, 50, 40]], [40, 40], [40, 40])

    def test_three_parties(self):
        # Turns: 0, 1, 0, 2.
        self.check([50, 30, 20], [[10, 9, 0, 0], [1, 8, 2, 0], [4, 4, 4, 4]], [10, 8, 4], [19, 2, 4])
        # Turns: 2, 1, 2, 0.
        self.check([20, 30, 50], [[4, 4, 4, 4], [1, 8, 2, 0], [10, 9, 0, 0]], [4, 8, 10], [4, 2, 19])
        # Turns: 0, 1, 2, 0, 1. Other offices, but worth as much together.
        self.check([50, 40, 30], [[9, 5, 8, 4, 9], [2, 3, 5, 9, 9], [0, 7, 4, 2, 6]], [18, 14, 7], [18, 14, 7])

    def test_four_parties_and_five_offices(self):
        # Turns: 0, 1, 2, 3, 0.
        self.check(
            [200, 200, 200, 200],
            [[3, 0, 7, 7, 6], [3, 3, 3, 9, 5], [0, 4, 6, 4, 7], [9, 8, 6, 8, 8]],
            [7, 9, 7, 9],
            [10, 9, 7, 8],
        )
        # Turns: 1, 2, 1, 3, 2. Ahead brings party 1 less, though it chooses first.
        self.check(
            [10, 40, 30, 20],
            [[2, 4, 9, 4, 0], [5, 9, 0, 1, 9], [5, 9, 5, 9, 8], [4, 7, 9, 5, 2]],
            [0, 18, 14, 9],
            [0, 14, 18, 9],
        )

    def test_ahead_may_bring_all_of_them_less(self):
        # Turns: 0, 1, 2, 0, 1. Plainly they take 4, 1, 2, 3, 0, ahead 1, 2, 3, 4, 0.
        self.check([7, 7, 7], [[2, 4, 2, 5, 7], [1, 6, 5, 4, 4], [0, 8, 6, 5, 2]], [12, 7, 6], [11, 6, 5])

    def test_several_turns_of_one_party_count_together(self):
        # Turns: 0, 1, 0, 0, 1. Plainly they take 1, 2, 4, 3, 0, ahead 0, 1, 3, 4, 2.
        self.check([60, 40], [[2, 6, 1, 5, 6], [1, 9, 3, 1, 2]], [17, 4], [13, 12])
        # Turns: 1, 1, 1, 0.
        self.check([3, 10], [[9, 0, 0, 0], [5, 2, 7, 6]], [0, 18], [0, 18])

    def test_no_offices(self):
        self.check([1], [[]], [0], [0])
        self.check([60, 40], [[], []], [0, 0], [0, 0])
        self.check([1, 2, 3, 4], [[], [], [], []], [0, 0, 0, 0], [0, 0, 0, 0])

    def test_one_party(self):
        self.check([1], [[7]], [7], [7])
        self.check([10], [[3, 1, 4, 1, 5]], [14], [14])

    def test_offices_worth_as_much(self):
        # Turns: 0, 1, 0.
        self.check([60, 40], [[20, 20, 20], [20, 20, 20]], [40, 20], [40, 20])
        # Turns: 0, 1, 2. Of offices 1 and 2 party 0 takes the first; that is the one party 1 wants.
        self.check([40, 30, 25], [[1, 9, 9], [1, 8, 2], [5, 5, 6]], [9, 2, 5], [9, 2, 5])
        # Turns: 0, 1, 0. Ahead office 0 brings party 0 as much as office 2 would, and it takes the first; party 1 has office 1.
        self.check([60, 40], [[9, 4, 11], [5, 12, 11]], [20, 12], [20, 12])

    def test_an_office_worth_nothing(self):
        # Turns: 0, 1, 0.
        self.check([60, 40], [[0, 30, 20], [0, 50, 40]], [30, 40], [30, 40])
        self.check([60, 40], [[0, 0, 0], [0, 0, 0]], [0, 0], [0, 0])
        self.check([60, 40], [[0, 0, 1], [0, 0, 1]], [1, 0], [1, 0])
        self.check([10], [[0]], [0], [0])

    def test_two_parties_with_as_many_seats(self):
        # Turns: 0, 1.
        self.check([7, 7], [[1, 2], [1, 2]], [2, 1], [2, 1])
        # Turns: 0, 1, 0, 1. Plainly they take 2, 3, 1, 0, ahead 1, 0, 2, 3.
        self.check([7, 7], [[3, 4, 8, 6], [4, 0, 1, 8]], [12, 12], [12, 12])
        # Turns: 1, 2, 1.
        self.check([1, 7, 7], [[9, 9, 9], [10, 9, 0], [0, 10, 9]], [0, 10, 10], [0, 19, 9])

    def test_a_party_that_gets_none(self):
        self.check([200, 1], [[1, 2, 3, 4, 5], [50, 50, 50, 50, 50]], [15, 0], [15, 0])
        self.check([1, 200], [[50, 40, 30, 20, 10], [1, 3, 5, 2, 4]], [0, 15], [0, 15])
        # It is told in the middle, too.
        self.check([60, 1, 40], [[10, 9, 0], [50, 0, 50], [0, 10, 9]], [10, 0, 10], [19, 0, 9])
        # Fewer offices than parties.
        self.check([40, 30, 20, 10], [[7], [8], [9], [10]], [7, 0, 0, 0], [7, 0, 0, 0])

    def test_the_greatest_worths(self):
        self.check([200], [[50] * 5], [250], [250])
        self.check([200, 200, 200, 200], [[50] * 5] * 4, [100, 50, 50, 50], [100, 50, 50, 50])

    def test_what_is_told_agrees_with_the_turns_and_the_offices_taken(self):
        for n, seats, worth in houses.many():
            parties = order(n, seats, worth)[1:]
            for k, call in enumerate((plain, ahead)):
                way = call(n, seats, worth)[1:]
                each = [gets(party, parties, way, n, worth) for party in range(len(seats))]
                self.assertEqual(gains(n, k, seats, worth), [len(seats)] + each, (n, k, seats, worth))

    def test_among_many_houses_ahead_brings_some_more_and_some_less(self):
        more = less = 0
        for n, seats, worth in houses.many():
            plainly = gains(n, 0, seats, worth)
            looking = gains(n, 1, seats, worth)
            more += any(there > here for here, there in zip(plainly, looking))
            less += any(there < here for here, there in zip(plainly, looking))
        self.assertGreater(more, 0)
        self.assertGreater(less, 0)


class Refused(unittest.TestCase):
    def test_k_is_above_1(self):
        for n, seats, worth in houses.at_the_edge():
            for k in (2, 3, 22, houses.GREATEST):
                self.assertEqual(gains(n, k, seats, worth), [-22], (n, k, seats, worth))

    def test_k_and_the_house_together(self):
        for n, seats, worth in houses.refused():
            for k in (2, houses.GREATEST):
                self.assertEqual(gains(n, k, seats, worth), [-22], (n, k, seats, worth))


class EveryCall(houses.HoldsForEveryCall):
    def check_answered(self, house, answer):
        parties = len(house[1])
        self.assertEqual(answer[0], parties, house)
        self.assertEqual(len(answer), 1 + parties, house)
        self.assertGreaterEqual(min(answer), 0, house)


class EveryCallPlainly(EveryCall, unittest.TestCase):
    def call(self, n, seats, worth):
        return gains(n, 0, seats, worth)


class EveryCallAhead(EveryCall, unittest.TestCase):
    def call(self, n, seats, worth):
        return gains(n, 1, seats, worth)


class EveryCallWithAGreatK(EveryCall, unittest.TestCase):
    def call(self, n, seats, worth):
        return gains(n, 2, seats, worth)

    def check_answered(self, house, answer):
        self.assertEqual(answer, [-22], house)


if __name__ == "__main__":
    unittest.main()
