"""What the document promises over all six calls together."""

import contextlib
import inspect
import io
import unittest

import houses
from turns import offices
from turns.offices import ahead, alone, gains, order, plain, swaps

PARAMETERS = {
    "order": ["n", "seats", "worth"],
    "plain": ["n", "seats", "worth"],
    "ahead": ["n", "seats", "worth"],
    "alone": ["n", "i", "seats", "worth"],
    "gains": ["n", "k", "seats", "worth"],
    "swaps": ["n", "k", "seats", "worth"],
}


def all_answers(n, number, seats, worth):
    """What each call answers to a house; the number is i or k where one is handed in."""
    return {
        "order": order(n, seats, worth),
        "plain": plain(n, seats, worth),
        "ahead": ahead(n, seats, worth),
        "alone": alone(n, number, seats, worth),
        "gains": gains(n, number, seats, worth),
        "swaps": swaps(n, number, seats, worth),
    }


def how_long(answers, seats):
    """How long each answer is to be, as the document tells of each call."""
    return {
        "order": 1 + answers["order"][0],
        "plain": 1 + answers["plain"][0],
        "ahead": 1 + answers["ahead"][0],
        "alone": 2,
        "gains": 1 + len(seats),
        "swaps": 1 + 2 * answers["swaps"][0],
    }


def without_last_office(n, seats, worth):
    return [worth[party * n + office] for party in range(len(seats)) for office in range(n - 1)]


class Interface(unittest.TestCase):
    def test_names_and_arguments(self):
        for name, parameters in PARAMETERS.items():
            signature = inspect.signature(getattr(offices, name))
            self.assertEqual(list(signature.parameters), parameters, name)
            for parameter in signature.parameters.values():
                self.assertIs(parameter.default, inspect.Parameter.empty, name)

    def test_nothing_is_printed(self):
        printed = io.StringIO()
        with contextlib.redirect_stdout(printed), contextlib.redirect_stderr(printed):
            for n, seats, worth in [*houses.at_the_edge(), *houses.refused()]:
                all_answers(n, 1, seats, worth)
        self.assertEqual(printed.getvalue(), "")


class Refusals(unittest.TestCase):
    def test_a_house_that_is_not_as_told_comes_first(self):
        for n, seats, worth in houses.refused():
            for number in (0, 1, 2, 5, houses.GREATEST):
                answers = all_answers(n, number, seats, worth)
                self.assertEqual(answers, dict.fromkeys(PARAMETERS, [-22]), (n, number, seats, worth))

    def test_a_great_number_is_refused_where_it_is_handed_in(self):
        for n, seats, worth in houses.at_the_edge():
            for number in (4, 5, 22, houses.GREATEST):
                answers = all_answers(n, number, seats, worth)
                refusals = {name: answer for name, answer in answers.items() if answer[0] < 0}
                self.assertEqual(refusals, {"alone": [-2], "gains": [-22], "swaps": [-22]}, (n, number, seats, worth))

    def test_i_of_2_is_a_party_and_k_of_2_is_refused(self):
        answers = all_answers(3, 2, [30, 20, 10], [9, 8, 7, 9, 8, 7, 9, 8, 7])
        self.assertEqual(answers["alone"], [0, 0])
        self.assertEqual(answers["gains"], [-22])
        self.assertEqual(answers["swaps"], [-22])

    def test_k_of_1_is_let_and_i_of_1_is_no_party(self):
        answers = all_answers(2, 1, [30], [9, 8])
        self.assertEqual(answers["alone"], [-2])
        self.assertEqual(answers["gains"], [1, 17])
        self.assertEqual(answers["swaps"], [0])

    def test_nothing_else_is_below_0_and_each_answer_is_as_long_as_told(self):
        for n, seats, worth in [*houses.at_the_edge(), *houses.many(), *houses.near_those_with_pairs()]:
            for number in range(min(2, len(seats))):
                answers = all_answers(n, number, seats, worth)
                for name, length in how_long(answers, seats).items():
                    self.assertGreaterEqual(min(answers[name]), 0, (name, n, number, seats, worth))
                    self.assertEqual(len(answers[name]), length, (name, n, number, seats, worth))


class WhatHolds(unittest.TestCase):
    """Each by itself is tested beside its call, too; here the calls are held against one another."""

    def test_a_with_an_office_more_the_turns_go_on_as_they_were(self):
        for n, seats, worth in [*houses.many(), *houses.near_those_with_pairs()]:
            if n > 0:
                fewer = order(n - 1, seats, without_last_office(n, seats, worth))
                self.assertEqual(order(n, seats, worth)[1:-1], fewer[1:], (n, seats, worth))

    def test_b_seats_for_ones_offices_are_no_fewer_than_anothers_for_one_more(self):
        for n, seats, worth in houses.near_those_with_pairs():
            parties = order(n, seats, worth)[1:]
            had = [parties.count(party) for party in range(len(seats))]
            for one, seats_of_one in enumerate(seats):
                for other, seats_of_other in enumerate(seats):
                    self.assertGreaterEqual(seats_of_one * (had[other] + 1), seats_of_other * had[one], (n, seats))

    def test_c_each_office_goes_to_one_party(self):
        for n, seats, worth in houses.near_those_with_pairs():
            for call in (plain, ahead):
                self.assertEqual(sorted(call(n, seats, worth)[1:]), list(range(n)), (n, seats, worth))

    def test_c_where_an_office_is_worth_as_much_to_all_nothing_is_lost(self):
        for n, seats, worth in houses.many():
            own = worth[:n]
            for k in (0, 1):
                shared = gains(n, k, seats, own * len(seats))
                self.assertEqual(sum(shared[1:]), sum(own), (n, k, seats, own))

    def test_d_who_looks_ahead_alone_gets_no_less_than_gains_tells_plainly(self):
        for n, seats, worth in [*houses.many(), *houses.near_those_with_pairs()]:
            plainly = gains(n, 0, seats, worth)[1:]
            for i in range(len(seats)):
                looking, otherwise = alone(n, i, seats, worth)
                self.assertEqual(otherwise, plainly[i], (n, i, seats, worth))
                self.assertGreaterEqual(looking, plainly[i], (n, i, seats, worth))

    def test_d_who_has_one_turn_gets_no_more_by_looking_ahead_alone(self):
        for n, seats, worth in houses.many():
            parties = order(n, seats, worth)[1:]
            for i in range(len(seats)):
                # With one turn, or with none, there is nothing to look ahead to.
                if parties.count(i) < 2:
                    looking, otherwise = alone(n, i, seats, worth)
                    self.assertEqual(looking, otherwise, (n, i, seats, worth))

    def test_e_plainly_no_two_would_rather_have_each_others(self):
        for n, seats, worth in houses.at_the_edge():
            self.assertEqual(swaps(n, 0, seats, worth), [0], (n, seats, worth))

    def test_nothing_is_kept_from_one_call_to_another(self):
        handed_in = [(n, 1, seats, worth) for n, seats, worth in [*houses.at_the_edge(), *houses.near_those_with_pairs()]]
        first = [all_answers(*each) for each in handed_in]
        again = [all_answers(*each) for each in reversed(handed_in)]
        self.assertEqual(first, again[::-1])


if __name__ == "__main__":
    unittest.main()
