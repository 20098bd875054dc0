"""Point [6] and promise (1): votes and weights."""

import unittest

from tests.helpers import OwnTuple, counts, edges_of, larger_games, margins_of, never_right, pair_of, small_games
from votemargins.errors import InvalidVotes, InvalidWeights, Undefined
from votemargins.games import Game
from votemargins.margins import are_votes, are_weights, gains, greatest_edge, least_margin

THREE_BY_TWO = Game(((1, -1), (0, 1), (1, 1)))
TWO_BY_THREE = Game(((1, 0, -1), (-1, 1, 0)))
FOUR_BY_FOUR = Game(((1, -1, 0, 1), (-1, 1, 1, 0), (0, 1, -1, 1), (1, 0, 1, -1)))
ONE_BY_ONE = Game(((1,),))


def some_counts(length):
    """Some numbers for a game, with and without common divisors."""
    told = [
        (1, 0, 0, 0), (0, 0, 0, 1), (1, 1, 1, 1), (2, 4, 6, 8), (999999, 999999, 999999, 999999),
        (999999, 0, 1, 7), (3, 1, 0, 5), (12, 30, 18, 6), (0, 999999, 999998, 333333),
    ]
    return [numbers[:length] for numbers in told if any(numbers[:length])]


class WhatVotesAndWeightsAre(unittest.TestCase):
    def test_one_number_for_each_rule(self):
        for game in larger_games():
            for length in range(6):
                self.assertIs(are_votes(game, (1,) * length), length == game.rules)

    def test_one_number_for_each_example(self):
        for game in larger_games():
            for length in range(6):
                self.assertIs(are_weights(game, (1,) * length), length == game.examples)

    def test_the_bounds_at_each_place(self):
        told = [(0, True), (1, True), (999998, True), (999999, True), (1000000, False),
                (999999999999, False), (-1, False), (-999999, False), (-999999999999, False)]
        for place in range(4):
            for number, right in told:
                value = (1,) * place + (number,) + (1,) * (3 - place)
                self.assertIs(are_votes(FOUR_BY_FOUR, value), right, value)
                self.assertIs(are_weights(FOUR_BY_FOUR, value), right, value)

    def test_the_bounds_alone(self):
        for number, right in [(0, False), (1, True), (999999, True), (1000000, False), (-1, False)]:
            self.assertIs(are_votes(ONE_BY_ONE, (number,)), right)
            self.assertIs(are_weights(ONE_BY_ONE, (number,)), right)

    def test_not_all_zero(self):
        for game in larger_games():
            self.assertIs(are_votes(game, (0,) * game.rules), False)
            self.assertIs(are_weights(game, (0,) * game.examples), False)
        self.assertIs(are_votes(FOUR_BY_FOUR, (0, 0, 0, 1)), True)
        self.assertIs(are_weights(FOUR_BY_FOUR, (1, 0, 0, 0)), True)
        self.assertIs(are_votes(TWO_BY_THREE, (1, 1, -2)), False)

    def test_wrong_members(self):
        for wrong in [True, False, None, "", "1", (), (1,), [], [1], ONE_BY_ONE, Undefined("right")]:
            for value in [(wrong, 1, 1, 1), (1, 1, wrong, 1), (1, 1, 1, wrong), (wrong,) * 4]:
                self.assertIs(are_votes(FOUR_BY_FOUR, value), False)
                self.assertIs(are_weights(FOUR_BY_FOUR, value), False)

    def test_wrong_kinds(self):
        for wrong in [[1, 1, 1, 1], "1111", 1111, None, True, FOUR_BY_FOUR, FOUR_BY_FOUR.rows, {1, 2}]:
            self.assertIs(are_votes(FOUR_BY_FOUR, wrong), False)
            self.assertIs(are_weights(FOUR_BY_FOUR, wrong), False)

    def test_any_value(self):
        for game in [ONE_BY_ONE, THREE_BY_TWO, TWO_BY_THREE, FOUR_BY_FOUR]:
            for value in never_right():
                self.assertIs(are_votes(game, value), False)
                self.assertIs(are_weights(game, value), False)

    def test_by_name(self):
        self.assertIs(are_votes(game=TWO_BY_THREE, value=(1, 2, 3)), True)
        self.assertIs(are_weights(value=(1, 2), game=TWO_BY_THREE), True)


class Gains(unittest.TestCase):
    def test_told_by_hand(self):
        self.assertEqual(gains(THREE_BY_TWO, (3, 2)), (1, 2, 5))
        self.assertEqual(gains(TWO_BY_THREE, (1, 5, 2)), (-1, 4))
        self.assertEqual(gains(FOUR_BY_FOUR, (1, 2, 3, 4)), (3, 4, 3, 0))
        self.assertEqual(gains(ONE_BY_ONE, (999999,)), (999999,))
        self.assertEqual(gains(Game(((-1,),)), (7,)), (-7,))
        self.assertEqual(gains(Game(((0,),)), (7,)), (0,))
        self.assertEqual(gains(Game(((-1,) * 4,) * 4), (999999,) * 4), (-3999996,) * 4)

    def test_are_the_margins_times_the_sum(self):
        for game in larger_games():
            for votes in some_counts(game.rules):
                expected = tuple(margin * sum(votes) for margin in margins_of(game, votes))
                self.assertEqual(gains(game, votes), expected)

    def test_plain_tuple_of_integers(self):
        found = gains(THREE_BY_TWO, OwnTuple((3, 2)))
        self.assertEqual(found, (1, 2, 5))
        self.assertIs(type(found), tuple)
        for gain in found:
            self.assertIs(type(gain), int)

    def test_by_name(self):
        self.assertEqual(gains(game=THREE_BY_TWO, votes=(3, 2)), (1, 2, 5))


class LeastMargin(unittest.TestCase):
    def test_told_by_hand(self):
        self.assertEqual(least_margin(THREE_BY_TWO, (3, 2)), (1, 5))
        self.assertEqual(least_margin(TWO_BY_THREE, (1, 5, 2)), (-1, 8))
        self.assertEqual(least_margin(ONE_BY_ONE, (999999,)), (1, 1))
        self.assertEqual(least_margin(Game(((-1,),)), (999999,)), (-1, 1))

    def test_nothing_is_zero_over_one(self):
        self.assertEqual(least_margin(FOUR_BY_FOUR, (1, 2, 3, 4)), (0, 1))
        self.assertEqual(least_margin(Game(((0,),)), (999999,)), (0, 1))
        self.assertEqual(least_margin(THREE_BY_TWO, (5, 5)), (0, 1))

    def test_common_divisors_are_gone(self):
        self.assertEqual(least_margin(THREE_BY_TWO, (6, 4)), (1, 5))
        self.assertEqual(least_margin(THREE_BY_TWO, (6, 2)), (1, 4))
        self.assertEqual(least_margin(THREE_BY_TWO, (2, 6)), (-1, 2))
        self.assertEqual(least_margin(THREE_BY_TWO, (333333, 999999)), (-1, 2))

    def test_all_small_games(self):
        for game in small_games():
            for votes in counts(game.rules, 4):
                expected = pair_of(min(margins_of(game, votes)))
                self.assertEqual(least_margin(game, votes), expected)

    def test_larger_games(self):
        for game in larger_games():
            for votes in some_counts(game.rules):
                expected = pair_of(min(margins_of(game, votes)))
                self.assertEqual(least_margin(game, votes), expected)

    def test_plain_pair(self):
        found = least_margin(game=THREE_BY_TWO, votes=(6, 4))
        self.assertIs(type(found), tuple)
        self.assertEqual([type(part) for part in found], [int, int])


class GreatestEdge(unittest.TestCase):
    def test_told_by_hand(self):
        self.assertEqual(greatest_edge(THREE_BY_TWO, (1, 2, 4)), (5, 7))
        self.assertEqual(greatest_edge(THREE_BY_TWO, (5, 1, 1)), (6, 7))
        self.assertEqual(greatest_edge(TWO_BY_THREE, (1, 3)), (3, 4))
        self.assertEqual(greatest_edge(ONE_BY_ONE, (999999,)), (1, 1))
        self.assertEqual(greatest_edge(Game(((-1, -1), (-1, 0))), (3, 2)), (-3, 5))

    def test_nothing_is_zero_over_one(self):
        self.assertEqual(greatest_edge(Game(((1,), (-1,))), (999999, 999999)), (0, 1))
        self.assertEqual(greatest_edge(Game(((0, -1),)), (8,)), (0, 1))

    def test_common_divisors_are_gone(self):
        self.assertEqual(greatest_edge(Game(((1,), (-1,))), (9, 3)), (1, 2))
        self.assertEqual(greatest_edge(Game(((1,), (-1,))), (3, 9)), (-1, 2))
        self.assertEqual(greatest_edge(Game(((1,), (-1,))), (333333, 999999)), (-1, 2))

    def test_all_small_games(self):
        for game in small_games():
            for weights in counts(game.examples, 4):
                expected = pair_of(max(edges_of(game, weights)))
                self.assertEqual(greatest_edge(game, weights), expected)

    def test_larger_games(self):
        for game in larger_games():
            for weights in some_counts(game.examples):
                expected = pair_of(max(edges_of(game, weights)))
                self.assertEqual(greatest_edge(game, weights), expected)

    def test_plain_pair(self):
        found = greatest_edge(game=THREE_BY_TWO, weights=(2, 4, 8))
        self.assertIs(type(found), tuple)
        self.assertEqual([type(part) for part in found], [int, int])


class Errors(unittest.TestCase):
    def refused(self, error_class, function, game, value):
        with self.assertRaises(error_class) as caught:
            function(game, value)
        self.assertIs(type(caught.exception), error_class)
        self.assertIs(caught.exception.value, value)

    def test_any_value(self):
        for game in [ONE_BY_ONE, THREE_BY_TWO, TWO_BY_THREE, FOUR_BY_FOUR]:
            for value in never_right():
                self.refused(InvalidVotes, gains, game, value)
                self.refused(InvalidVotes, least_margin, game, value)
                self.refused(InvalidWeights, greatest_edge, game, value)

    def test_just_what_are_not_votes_or_weights(self):
        for game in larger_games():
            for length in range(1, 6):
                for number in (0, 1, 999999, 1000000):
                    value = (number,) * length
                    votes = length == game.rules and number in (1, 999999)
                    weights = length == game.examples and number in (1, 999999)
                    if votes:
                        self.assertEqual(len(gains(game, value)), game.examples)
                        self.assertEqual(len(least_margin(game, value)), 2)
                    else:
                        self.refused(InvalidVotes, gains, game, value)
                        self.refused(InvalidVotes, least_margin, game, value)
                    if weights:
                        self.assertEqual(len(greatest_edge(game, value)), 2)
                    else:
                        self.refused(InvalidWeights, greatest_edge, game, value)

    def test_weights_are_no_votes(self):
        self.refused(InvalidVotes, gains, THREE_BY_TWO, (1, 1, 1))
        self.refused(InvalidVotes, least_margin, THREE_BY_TWO, (1, 1, 1))
        self.refused(InvalidWeights, greatest_edge, THREE_BY_TWO, (1, 1))

    def test_bools_for_integers(self):
        for value in [(True, 1), (1, True), (False, 1), (1, False), (True, True)]:
            self.refused(InvalidVotes, gains, THREE_BY_TWO, value)
            self.refused(InvalidVotes, least_margin, THREE_BY_TWO, value)
            self.refused(InvalidWeights, greatest_edge, TWO_BY_THREE, value)


class NoMarginBeatsAnEdge(unittest.TestCase):
    """Promise (1)."""

    def check(self, game, votes, weights):
        top, bottom = least_margin(game, votes)
        edge_top, edge_bottom = greatest_edge(game, weights)
        self.assertLessEqual(top * edge_bottom, edge_top * bottom, (game.rows, votes, weights))

    def test_small_games(self):
        for game in small_games():
            for votes in counts(game.rules, 3):
                for weights in counts(game.examples, 3):
                    self.check(game, votes, weights)

    def test_larger_games(self):
        for game in larger_games():
            for votes in some_counts(game.rules):
                for weights in some_counts(game.examples):
                    self.check(game, votes, weights)

    def test_they_may_meet(self):
        game = Game(((1, -1, 1), (1, 1, -1), (-1, 1, 1)))
        self.assertEqual(least_margin(game, (1, 1, 1)), (1, 3))
        self.assertEqual(greatest_edge(game, (1, 1, 1)), (1, 3))
        self.assertEqual(least_margin(game, (2, 1, 1)), (0, 1))
        self.assertEqual(greatest_edge(game, (1, 1, 2)), (1, 2))


class NothingChanges(unittest.TestCase):
    def test_games_stay_as_they_are(self):
        for game in larger_games():
            before = dict(vars(game))
            for votes in some_counts(game.rules):
                gains(game, votes)
                least_margin(game, votes)
            for weights in some_counts(game.examples):
                greatest_edge(game, weights)
            for function in [gains, least_margin, greatest_edge]:
                with self.assertRaises(ValueError):
                    function(game, [1])
            self.assertEqual(vars(game), before)

    def test_wrong_arguments_stay_as_they_are(self):
        value = [1, [2]]
        for function in [are_votes, are_weights]:
            self.assertIs(function(THREE_BY_TWO, value), False)
        for function in [gains, least_margin, greatest_edge]:
            with self.assertRaises(ValueError):
                function(THREE_BY_TWO, value)
        self.assertEqual(value, [1, [2]])

    def test_the_same_each_time(self):
        for game in larger_games():
            again = Game(game.rows)
            for votes in some_counts(game.rules):
                self.assertEqual(gains(game, votes), gains(again, votes))
                self.assertEqual(least_margin(game, votes), least_margin(again, votes))
            for weights in some_counts(game.examples):
                self.assertEqual(greatest_edge(game, weights), greatest_edge(again, weights))


if __name__ == "__main__":
    unittest.main()
