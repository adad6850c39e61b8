"""Houses of parties and offices that the tests of several calls hand in."""

from itertools import product

GREATEST = 4294967295

# Houses in which, ahead, some would rather swap: seats, worths, and the pairs.
WITH_PAIRS = [
    # Turns: 0, 1, 0, 0, 1. Offices: 4, 0, 1, 2, 3.
    ([18, 12], [[2, 25, 7, 3, 2], [2, 3, 3, 3, 20]], [(3, 4)]),
    ([60, 40], [[5, 12, 20, 6, 2], [1, 3, 3, 3, 23]], [(0, 4), (3, 4)]),
    # Turns: 0, 1, 2, 0. Offices: 1, 2, 0, 3.
    ([7, 7, 7], [[6, 5, 2, 4], [3, 9, 8, 6], [6, 9, 0, 3]], [(0, 1)]),
    # Turns: 2, 1, 0, 2. Offices: 1, 2, 3, 0.
    ([20, 30, 40], [[3, 7, 0, 6], [3, 5, 5, 2], [5, 3, 2, 4]], [(1, 3)]),
    # Turns: 0, 1, 2, 0, 1. Offices: 2, 3, 4, 1, 0.
    ([50, 40, 30], [[1, 9, 3, 1, 6], [0, 8, 6, 9, 1], [2, 1, 6, 6, 3]], [(2, 4)]),
    # Turns: 0, 1, 2, 0, 1. Offices: 3, 0, 2, 4, 1.
    ([50, 40, 30], [[11, 7, 6, 6, 16], [10, 13, 4, 15, 17], [8, 4, 8, 6, 8]], [(0, 3), (1, 3)]),
    # Turns: 0, 0, 1, 2, 0. Offices: 1, 2, 3, 0, 4.
    ([90, 40, 35], [[20, 16, 12, 5, 18], [4, 17, 18, 14, 6], [4, 19, 17, 0, 4]], [(0, 1), (0, 2)]),
    # Turns: 0, 2, 0, 0, 2. Offices: 4, 0, 1, 2, 3; party 1 gets none.
    ([37, 1, 20], [[0, 3, 3, 2, 0], [2, 2, 12, 0, 1], [0, 2, 2, 2, 16]], [(3, 4)]),
    # Turns: 0, 1, 0, 0, 1. Offices: 4, 0, 1, 2, 3; party 2 gets none.
    ([60, 40, 1], [[2, 9, 11, 6, 1], [4, 7, 7, 7, 16], [16, 17, 9, 9, 1]], [(0, 4), (3, 4)]),
    # Turns: 0, 1, 2, 0. Offices: 0, 3, 1, 2; party 3 gets none.
    ([50, 50, 30, 1], [[6, 8, 6, 3], [6, 1, 0, 3], [8, 5, 5, 3], [9, 1, 3, 8]], [(0, 1)]),
    # Turns: 0, 1, 2, 3, 0. Offices: 0, 3, 1, 4, 2.
    ([200] * 4, [[7, 9, 8, 0, 1], [8, 4, 1, 5, 5], [9, 5, 2, 0, 0], [3, 7, 0, 4, 7]], [(0, 1)]),
    # Turns: 0, 1, 2, 3, 0. Offices: 4, 2, 3, 1, 0. Two parties would each swap for party 0's office 4.
    ([200] * 4, [[8, 9, 2, 7, 6], [6, 2, 7, 3, 8], [4, 4, 4, 7, 8], [4, 5, 4, 6, 6]], [(1, 4), (3, 4)]),
    # Turns: 0, 1, 2, 3, 0. Offices: 0, 2, 3, 4, 1.
    ([200] * 4, [[5, 8, 1, 6, 6], [9, 2, 8, 4, 7], [9, 3, 4, 8, 6], [9, 2, 1, 9, 6]], [(0, 3), (0, 4)]),
    # Turns: 2, 1, 3, 0, 2. Offices: 2, 4, 0, 3, 1. Office 2 is the greater of one pair and the lesser of the other.
    (
        [30, 45, 53, 44],
        [[23, 16, 29, 27, 15], [1, 6, 27, 0, 12], [24, 28, 3, 5, 2], [4, 1, 16, 1, 1]],
        [(0, 2), (2, 3)],
    ),
]


class Untouched(list):
    """A list that fails the test as soon as anything is changed in it, be it for a while."""

    def refuse(self, *arguments, **named):
        raise AssertionError("what was handed in is being changed")

    append = extend = insert = remove = pop = clear = sort = reverse = refuse
    __setitem__ = __delitem__ = __iadd__ = __imul__ = refuse


def with_one_other(numbers, other):
    """The lists in which one number, each in its turn, is another."""
    return [numbers[:k] + [other] + numbers[k + 1:] for k in range(len(numbers))]


def refused():
    """Houses that are refused, each for one thing alone where that can be."""
    houses = [
        (6, [10, 20], [1] * 12),
        (6, [10], [1] * 6),
        (7, [10, 20, 30, 40], [1] * 28),
        (GREATEST, [10], [1] * 5),
        (GREATEST, [], []),
        (6, [], []),
        (5, [], []),
        (1, [], []),
        (0, [], []),
        (0, [], [1]),
        (3, [], [1, 2, 3]),
        (0, [1, 2, 3, 4, 5], []),
        (1, [1, 2, 3, 4, 5], [1] * 5),
        (5, [1, 2, 3, 4, 5], [1] * 25),
        (3, [1] * 8, [1] * 24),
        (0, [10], [0]),
        (0, [10, 20], [1]),
        (0, [10, 20], [1, 1]),
        (1, [10], []),
        (1, [10], [1, 1]),
        (2, [10, 20], [1] * 2),
        (2, [10, 20], [1] * 3),
        (2, [10, 20], [1] * 5),
        (2, [10, 20], [1] * 6),
        (5, [10, 20, 30, 40], [1] * 19),
        (5, [10, 20, 30, 40], [1] * 21),
        (4, [10, 20, 30], [1] * 16),
        (0, [0], []),
        (0, [201], []),
    ]
    for seats_not_let in (0, 201, GREATEST):
        for seats in with_one_other([10, 20, 30, 40], seats_not_let):
            houses.append((5, seats, [1] * 20))
    for worth_not_let in (51, GREATEST):
        for worth in with_one_other([1] * 20, worth_not_let):
            houses.append((5, [10, 20, 30, 40], worth))
    return houses


def at_the_edge():
    """Houses that are only just not refused."""
    return [
        (0, [1], []),
        (0, [200], []),
        (0, [1, 200, 1, 200], []),
        (1, [1], [0]),
        (1, [200], [50]),
        (5, [1], [50] * 5),
        (5, [200, 1, 200, 1], [0, 50] * 10),
        (5, [200, 200, 200, 200], [50] * 20),
        (5, [1, 1, 1, 1], [0] * 20),
    ]


def seats_of_many():
    """Seats of 1 to 4 parties, with like ones, quotients that come close, and the greatest and least."""
    for parties in range(1, 5):
        for seats in product((1, 2, 3, 5, 11, 199, 200), repeat=parties):
            yield list(seats)


def spread(count, start, most):
    """So many numbers from 0 to the most, strewn by a fixed rule, the same each time."""
    numbers = []
    state = start
    for k in range(count):
        state = (state * 1103515245 + 12345) % 2147483648
        numbers.append(state // 65536 % (most + 1))
    return numbers


def many():
    """Houses of 0 to 5 offices and 1 to 4 parties; some worths lie close, so that many are alike."""
    for start, seats in enumerate(seats_of_many()):
        for n in range(6):
            most = (1, 3, 50)[start % 3]
            yield n, seats, spread(n * len(seats), start * 6 + n, most)


def flat(worths):
    """The worths of each party, one behind another, as the calls take them."""
    return [number for own in worths for number in own]


def gets(party, parties, way, n, worth):
    """What a party gets if these parties take the offices of this way, turn by turn."""
    return sum(worth[party * n + office] for chooser, office in zip(parties, way) if chooser == party)


def near_those_with_pairs():
    """Houses that differ in one worth, or in none, from those with pairs, so that many of them have pairs, too."""
    for seats, worths, pairs in WITH_PAIRS:
        n = len(worths[0])
        for other in (0, 1, 2, 4, 5, 7, 9, 14, 20, 50):
            for worth in with_one_other(flat(worths), other):
                yield n, seats, worth


class HoldsForEveryCall:
    """What every call on a house keeps to; a test case beside it has `call`, and `check_answered` where not n leads."""

    def test_what_is_not_as_told_is_refused(self):
        for house in refused():
            self.assertEqual(self.call(*house), [-22], house)

    def check_answered(self, house, answer):
        self.assertEqual(answer[0], house[0], house)
        self.assertEqual(len(answer), 1 + house[0], house)

    def test_what_is_only_just_as_told_is_answered(self):
        for house in at_the_edge():
            self.check_answered(house, self.call(*house))

    def test_what_is_handed_in_is_not_changed(self):
        for n, seats, worth in [*at_the_edge(), *refused(), *many()]:
            seats_handed_in = Untouched(seats)
            worth_handed_in = Untouched(worth)
            self.call(n, seats_handed_in, worth_handed_in)
            self.assertEqual(seats_handed_in, seats)
            self.assertEqual(worth_handed_in, worth)

    def test_a_call_made_again_answers_the_same(self):
        for house in [*at_the_edge(), *refused(), *many()]:
            answer = self.call(*house)
            kept = list(answer)
            # Whoever holds an answer may change it; a later answer is none the worse for it.
            answer.append(99)
            answer[0] = 99
            self.assertEqual(self.call(*house), kept, house)

    def test_the_answer_is_a_list_of_whole_numbers(self):
        for house in [*at_the_edge(), *refused(), *many()]:
            answer = self.call(*house)
            self.assertIs(type(answer), list)
            for number in answer:
                self.assertIs(type(number), int)
