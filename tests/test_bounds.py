"""Point [8] and promise (3): votes with at least a told margin, or weights against them."""

import unittest
from fractions import Fraction

from tests.helpers import (
    OwnTuple, around, counts, edges_of, four_by_four_games, larger_games, margins_of, never_right, not_ratios,
    small_games, special_games,
)
from votemargins.bounds import votes_for, votes_hold, weights_against, weights_hold
from votemargins.errors import InvalidRatio, Undefined
from votemargins.games import Game
from votemargins.margins import are_votes, are_weights
from votemargins.worths import best_votes, hard_weights, worth

THIRD = Game(((1, -1, 1), (1, 1, -1), (-1, 1, 1)))
LESS_HALF = Game(((-1, 0), (0, -1)))
TWO_BY_THREE = Game(((1, 0, -1), (-1, 1, 0)))

FAR = [
    (-999999, 1), (999999, 1), (1, 999999), (-1, 999999), (999998, 999999), (-999998, 999999),
    (999999, 999998), (-999999, 999998), (0, 1), (1, 1), (-1, 1),
]
NEAR = [(1, 2), (-1, 2), (1, 3), (-1, 3), (2, 3), (-2, 3), (1, 4), (2, 5), (-3, 7), (5, 4), (2, 1), (-2, 1)]


class Checks(unittest.TestCase):
    def undefined(self, what, function, game, ratio):
        with self.assertRaises(Undefined) as caught:
            function(game, ratio)
        self.assertIs(type(caught.exception), Undefined)
        self.assertEqual(caught.exception.what, what)

    def are_for(self, game, ratio):
        votes = votes_for(game, ratio)
        self.assertTrue(are_votes(game, votes))
        self.assertGreaterEqual(min(margins_of(game, votes)), Fraction(*ratio))
        self.assertIs(votes_hold(game, ratio, votes), True)
        self.undefined("weights", weights_against, game, ratio)
        self.assertIs(weights_hold(game, ratio, hard_weights(game)), False)

    def are_against(self, game, ratio):
        weights = weights_against(game, ratio)
        self.assertTrue(are_weights(game, weights))
        self.assertLess(max(edges_of(game, weights)), Fraction(*ratio))
        self.assertIs(weights_hold(game, ratio, weights), True)
        self.undefined("votes", votes_for, game, ratio)
        self.assertIs(votes_hold(game, ratio, best_votes(game)), False)


class VotesOrWeights(Checks):
    def test_around_the_worth(self):
        for game in small_games() + larger_games() + four_by_four_games(100) + special_games():
            below, at, above = around(worth(game))
            self.are_for(game, below)
            self.are_for(game, at)
            self.are_against(game, above)

    def test_far_and_near(self):
        for game in small_games() + larger_games() + special_games():
            reached = Fraction(*worth(game))
            for ratio in FAR + NEAR:
                if Fraction(*ratio) <= reached:
                    self.are_for(game, ratio)
                else:
                    self.are_against(game, ratio)

    def test_told_by_hand(self):
        for ratio in [(1, 3), (333332, 999999), (333332, 999997), (1, 4), (0, 1), (-1, 2), (-999999, 1)]:
            self.are_for(THIRD, ratio)
        for ratio in [(333333, 999998), (333334, 999999), (1, 2), (1, 1), (999999, 1)]:
            self.are_against(THIRD, ratio)
        first, second, third = votes_for(THIRD, (1, 3))
        self.assertTrue(first == second == third)

    def test_compared_as_numbers(self):
        # As tuples these would lie on the other side of (1, 3) and of (-1, 2).
        self.are_against(THIRD, (1, 2))
        self.are_for(THIRD, (2, 7))
        self.are_for(THIRD, (1, 4))
        self.are_against(LESS_HALF, (-1, 3))
        self.are_for(LESS_HALF, (-1, 1))
        self.are_for(LESS_HALF, (-1, 2))

    def test_plain_tuples(self):
        for game in larger_games():
            below, at, above = around(worth(game))
            for found in [votes_for(game, below), votes_for(game, at), weights_against(game, above)]:
                self.assertIs(type(found), tuple)
                self.assertEqual({type(member) for member in found}, {int})

    def test_the_same_each_time(self):
        for game in larger_games():
            again = Game(game.rows)
            below, at, above = around(worth(game))
            for ratio in (below, at):
                self.assertEqual(votes_for(game, ratio), votes_for(again, ratio))
            self.assertEqual(weights_against(game, above), weights_against(again, above))

    def test_by_name(self):
        self.assertEqual(votes_for(game=THIRD, ratio=(1, 3)), votes_for(THIRD, (1, 3)))
        self.assertEqual(weights_against(ratio=(1, 2), game=THIRD), weights_against(THIRD, (1, 2)))


class WrongRatios(unittest.TestCase):
    def test_refused(self):
        for game in [Game(((1,),)), Game(((-1,),)), THIRD, TWO_BY_THREE]:
            for value in not_ratios():
                for function in [votes_for, weights_against]:
                    with self.assertRaises(InvalidRatio) as caught:
                        function(game, value)
                    self.assertIs(type(caught.exception), InvalidRatio)
                    self.assertIs(caught.exception.value, value)

    def test_no_votes_and_no_weights_hold_for_them(self):
        for game in [Game(((1,),)), Game(((-1,),)), THIRD, TWO_BY_THREE]:
            for ratio in not_ratios():
                for value in [best_votes(game), hard_weights(game), (1,) * game.rules, None]:
                    self.assertIs(votes_hold(game, ratio, value), False)
                    self.assertIs(weights_hold(game, ratio, value), False)

    def test_the_bounds_are_ratios(self):
        one = Game(((1,),))
        for ratio in FAR:
            self.assertIs(votes_hold(one, ratio, (1,)), Fraction(*ratio) <= 1)
            self.assertIs(weights_hold(one, ratio, (1,)), Fraction(*ratio) > 1)


class Lookers(unittest.TestCase):
    def test_all_small_games(self):
        for game in small_games():
            for ratio in FAR + NEAR:
                told = Fraction(*ratio)
                for votes in counts(game.rules, 3):
                    right = min(margins_of(game, votes)) >= told
                    self.assertIs(votes_hold(game, ratio, votes), right)
                for weights in counts(game.examples, 3):
                    right = max(edges_of(game, weights)) < told
                    self.assertIs(weights_hold(game, ratio, weights), right)

    def test_any_votes_and_weights_will_do(self):
        self.assertIs(votes_hold(THIRD, (1, 3), (999999, 999999, 999999)), True)
        self.assertIs(votes_hold(THIRD, (1, 3), (1000000, 1000000, 1000000)), False)
        self.assertIs(votes_hold(THIRD, (1, 3), (999999, 999999, 999998)), False)
        self.assertIs(votes_hold(THIRD, (333332, 999999), (999999, 999999, 999998)), True)
        self.assertIs(weights_hold(THIRD, (1, 2), (999999, 999999, 999999)), True)
        self.assertIs(weights_hold(THIRD, (1, 2), (1000000, 1000000, 1000000)), False)
        self.assertIs(weights_hold(THIRD, (1, 3), (1, 1, 1)), False)
        self.assertIs(weights_hold(THIRD, (333334, 999999), (1, 1, 1)), True)
        self.assertIs(weights_hold(THIRD, (1, 2), (1, 1, 2)), False)

    def test_wrong_values(self):
        for game in [Game(((1,),)), Game(((-1,),)), THIRD, TWO_BY_THREE]:
            for value in never_right():
                for ratio in [(-999999, 1), (0, 1), (1, 2), (999999, 1), (2, 4), None, value]:
                    self.assertIs(votes_hold(game, ratio, value), False)
                    self.assertIs(weights_hold(game, ratio, value), False)

    def test_wrong_members(self):
        for wrong in [True, False, None, "1", (1,), [1], -1, 1000000, THIRD]:
            for value in [(wrong, 1, 1), (1, wrong, 1), (1, 1, wrong)]:
                self.assertIs(votes_hold(THIRD, (-1, 1), value), False)
                self.assertIs(weights_hold(THIRD, (2, 1), value), False)
        for value in [[1, 1, 1], (1, 1), (1, 1, 1, 1), (0, 0, 0), "111"]:
            self.assertIs(votes_hold(THIRD, (-1, 1), value), False)
            self.assertIs(weights_hold(THIRD, (2, 1), value), False)

    def test_votes_are_no_weights(self):
        self.assertIs(votes_hold(TWO_BY_THREE, (-1, 1), (1, 1, 1)), True)
        self.assertIs(votes_hold(TWO_BY_THREE, (-1, 1), (1, 1)), False)
        self.assertIs(weights_hold(TWO_BY_THREE, (2, 1), (1, 1)), True)
        self.assertIs(weights_hold(TWO_BY_THREE, (2, 1), (1, 1, 1)), False)

    def test_what_is_returned_and_changed(self):
        for game in larger_games():
            below, at, above = around(worth(game))
            votes, weights = votes_for(game, at), weights_against(game, above)
            for cut in [votes[:-1], votes + votes, votes + (0,), votes + (1,), list(votes), (votes,)]:
                self.assertIs(votes_hold(game, at, cut), False)
            for cut in [weights[:-1], weights + weights, weights + (0,), weights + (1,), list(weights), (weights,)]:
                self.assertIs(weights_hold(game, above, cut), False)

    def test_nothing_changes(self):
        ratio, value = [1, [2]], [1, [1], 1]
        before = dict(vars(THIRD))
        for function in [votes_hold, weights_hold]:
            self.assertIs(function(THIRD, ratio, value), False)
            self.assertIs(function(THIRD, (1, 3), value), False)
        self.assertEqual((ratio, value), ([1, [2]], [1, [1], 1]))
        self.assertEqual(vars(THIRD), before)

    def test_by_name(self):
        self.assertIs(votes_hold(game=THIRD, ratio=(1, 3), value=(1, 1, 1)), True)
        self.assertIs(weights_hold(value=(1, 1, 1), ratio=(1, 2), game=THIRD), True)
        self.assertIs(votes_hold(THIRD, OwnTuple((1, 3)), OwnTuple((1, 1, 1))), True)


if __name__ == "__main__":
    unittest.main()
