"""Houses of parties and offices that the tests of several calls hand in."""

from itertools import product

GREATEST = 4294967295


class Untouched(list):
    """A list that fails the test as soon as anything is changed in it, be it for a while."""

    def refuse(self, *arguments, **named):
        raise AssertionError("what was handed in is being changed")

    append = extend = insert = remove = pop = clear = sort = reverse = refuse
    __setitem__ = __delitem__ = __iadd__ = __imul__ = refuse


def with_one_other(numbers, other):
    """The lists in which one number, each in its turn, is another."""
    return [numbers[:k] + [other] + numbers[k + 1:] for k in range(len(numbers))]


def refused():
    """Houses that are refused, each for one thing alone where that can be."""
    houses = [
        (6, [10, 20], [1] * 12),
        (6, [10], [1] * 6),
        (7, [10, 20, 30, 40], [1] * 28),
        (GREATEST, [10], [1] * 5),
        (GREATEST, [], []),
        (6, [], []),
        (5, [], []),
        (1, [], []),
        (0, [], []),
        (0, [], [1]),
        (3, [], [1, 2, 3]),
        (0, [1, 2, 3, 4, 5], []),
        (1, [1, 2, 3, 4, 5], [1] * 5),
        (5, [1, 2, 3, 4, 5], [1] * 25),
        (3, [1] * 8, [1] * 24),
        (0, [10], [0]),
        (0, [10, 20], [1]),
        (0, [10, 20], [1, 1]),
        (1, [10], []),
        (1, [10], [1, 1]),
        (2, [10, 20], [1] * 2),
        (2, [10, 20], [1] * 3),
        (2, [10, 20], [1] * 5),
        (2, [10, 20], [1] * 6),
        (5, [10, 20, 30, 40], [1] * 19),
        (5, [10, 20, 30, 40], [1] * 21),
        (4, [10, 20, 30], [1] * 16),
        (0, [0], []),
        (0, [201], []),
    ]
    for seats_not_let in (0, 201, GREATEST):
        for seats in with_one_other([10, 20, 30, 40], seats_not_let):
            houses.append((5, seats, [1] * 20))
    for worth_not_let in (51, GREATEST):
        for worth in with_one_other([1] * 20, worth_not_let):
            houses.append((5, [10, 20, 30, 40], worth))
    return houses


def at_the_edge():
    """Houses that are only just not refused."""
    return [
        (0, [1], []),
        (0, [200], []),
        (0, [1, 200, 1, 200], []),
        (1, [1], [0]),
        (1, [200], [50]),
        (5, [1], [50] * 5),
        (5, [200, 1, 200, 1], [0, 50] * 10),
        (5, [200, 200, 200, 200], [50] * 20),
        (5, [1, 1, 1, 1], [0] * 20),
    ]


def seats_of_many():
    """Seats of 1 to 4 parties, with like ones, quotients that come close, and the greatest and least."""
    for parties in range(1, 5):
        for seats in product((1, 2, 3, 5, 11, 199, 200), repeat=parties):
            yield list(seats)


def spread(count, start, most):
    """So many numbers from 0 to the most, strewn by a fixed rule, the same each time."""
    numbers = []
    state = start
    for k in range(count):
        state = (state * 1103515245 + 12345) % 2147483648
        numbers.append(state // 65536 % (most + 1))
    return numbers


def many():
    """Houses of 0 to 5 offices and 1 to 4 parties; some worths lie close, so that many are alike."""
    for start, seats in enumerate(seats_of_many()):
        for n in range(6):
            most = (1, 3, 50)[start % 3]
            yield n, seats, spread(n * len(seats), start * 6 + n, most)


def flat(worths):
    """The worths of each party, one behind another, as the calls take them."""
    return [number for own in worths for number in own]


def gets(party, parties, way, n, worth):
    """What a party gets if these parties take the offices of this way, turn by turn."""
    return sum(worth[party * n + office] for chooser, office in zip(parties, way) if chooser == party)


class HoldsForEveryCall:
    """What every call on a house keeps to; a test case beside it has `call`, and `check_answered` where not n leads."""

    def test_what_is_not_as_told_is_refused(self):
        for house in refused():
            self.assertEqual(self.call(*house), [-22], house)

    def check_answered(self, house, answer):
        self.assertEqual(answer[0], house[0], house)
        self.assertEqual(len(answer), 1 + house[0], house)

    def test_what_is_only_just_as_told_is_answered(self):
        for house in at_the_edge():
            self.check_answered(house, self.call(*house))

    def test_what_is_handed_in_is_not_changed(self):
        for n, seats, worth in [*at_the_edge(), *refused(), *many()]:
            seats_handed_in = Untouched(seats)
            worth_handed_in = Untouched(worth)
            self.call(n, seats_handed_in, worth_handed_in)
            self.assertEqual(seats_handed_in, seats)
            self.assertEqual(worth_handed_in, worth)

    def test_a_call_made_again_answers_the_same(self):
        for house in [*at_the_edge(), *refused(), *many()]:
            answer = self.call(*house)
            kept = list(answer)
            # Whoever holds an answer may change it; a later answer is none the worse for it.
            answer.append(99)
            answer[0] = 99
            self.assertEqual(self.call(*house), kept, house)

    def test_the_answer_is_a_list_of_whole_numbers(self):
        for house in [*at_the_edge(), *refused(), *many()]:
            answer = self.call(*house)
            self.assertIs(type(answer), list)
            for number in answer:
                self.assertIs(type(number), int)
