"""Point [7] and promise (2): the worth, and the votes and weights that have it."""

import unittest

from tests.helpers import (
    counts, edges_of, four_by_four_games, larger_games, margins_of, pair_of, rows_of_size, small_games,
    special_games, worth_by_steps,
)
from votemargins.games import Game
from votemargins.margins import are_votes, are_weights, greatest_edge, least_margin
from votemargins.worths import best_votes, hard_weights, worth

TOLD = [
    (((1,),), (1, 1)),
    (((0,),), (0, 1)),
    (((-1,),), (-1, 1)),
    (((-1, 0, 1, 0),), (1, 1)),
    (((-1, 0, -1, 0),), (0, 1)),
    (((1,), (0,), (-1,), (0,)), (-1, 1)),
    (((1,), (0,), (1,), (0,)), (0, 1)),
    (((1, 0), (0, 1)), (1, 2)),
    (((-1, 0), (0, -1)), (-1, 2)),
    (((1, -1), (-1, 1)), (0, 1)),
    (((1, 0), (-1, 1)), (1, 3)),
    (((0, -1), (-1, 1)), (-1, 3)),
    (((1, -1), (0, 0)), (0, 1)),
    (((1, -1), (1, -1)), (1, 1)),
    (((1, -1, 1), (1, 1, -1), (-1, 1, 1)), (1, 3)),
    (((0, 1, -1), (-1, 0, 1), (1, -1, 0)), (0, 1)),
    (((1, 0, 0, 0), (0, 1, 0, 0), (0, 0, 1, 0), (0, 0, 0, 1)), (1, 4)),
    (((-1, 0, 0, 0), (0, -1, 0, 0), (0, 0, -1, 0), (0, 0, 0, -1)), (-1, 4)),
    (((-1, 1, 1, 1), (1, -1, 1, 1), (1, 1, -1, 1), (1, 1, 1, -1)), (1, 2)),
    (((1, -1, -1, -1), (-1, 1, -1, -1), (-1, -1, 1, -1), (-1, -1, -1, 1)), (-1, 2)),
    (((0,) * 4,) * 4, (0, 1)),
    (((1,) * 4,) * 4, (1, 1)),
    (((-1,) * 4,) * 4, (-1, 1)),
    (((1, 1, 0), (1, 1, 0), (0, 0, 1)), (1, 2)),
]


class Checks(unittest.TestCase):
    def check(self, game):
        """Votes and weights that meet, seen by the package and by fractions."""
        ratio, votes, weights = worth(game), best_votes(game), hard_weights(game)
        self.assertTrue(are_votes(game, votes), (game.rows, votes))
        self.assertTrue(are_weights(game, weights), (game.rows, weights))
        self.assertEqual(least_margin(game, votes), ratio, game.rows)
        self.assertEqual(greatest_edge(game, weights), ratio, game.rows)
        self.assertEqual(pair_of(min(margins_of(game, votes))), ratio, game.rows)
        self.assertEqual(pair_of(max(edges_of(game, weights))), ratio, game.rows)


class Worth(Checks):
    def test_told_by_hand(self):
        for rows, ratio in TOLD:
            self.assertEqual(worth(Game(rows)), ratio, rows)

    def test_small_games(self):
        for game in small_games():
            self.check(game)

    def test_games_of_two_and_three(self):
        for examples, rules in [(2, 3), (3, 2)]:
            for rows in rows_of_size(examples, rules):
                self.check(Game(rows))

    def test_larger_games(self):
        for game in larger_games():
            self.check(game)

    def test_four_by_four_games(self):
        for game in four_by_four_games(1000):
            self.check(game)

    def test_special_games(self):
        for game in special_games():
            self.check(game)

    def test_below_and_above_zero_are_seen(self):
        found = [worth(game)[0] for game in special_games()]
        self.assertTrue(min(found) < 0 < max(found))
        self.assertIn(0, found)

    def test_by_another_way(self):
        for game in small_games() + larger_games() + four_by_four_games(100) + special_games():
            self.assertEqual(worth(game), pair_of(worth_by_steps(game.rows)), game.rows)

    def test_no_votes_have_more_and_no_weights_less(self):
        for game in small_games():
            top, bottom = worth(game)
            for votes in counts(game.rules, 3):
                margin_top, margin_bottom = least_margin(game, votes)
                self.assertLessEqual(margin_top * bottom, top * margin_bottom)
            for weights in counts(game.examples, 3):
                edge_top, edge_bottom = greatest_edge(game, weights)
                self.assertLessEqual(top * edge_bottom, edge_top * bottom)

    def test_one_rule_or_one_example(self):
        for signs in rows_of_size(1, 4):
            self.assertEqual(worth(Game(signs)), (max(signs[0]), 1))
            self.assertEqual(worth(Game(tuple((sign,) for sign in signs[0]))), (min(signs[0]), 1))


class AlikeAndTurned(Checks):
    def test_a_row_told_again_changes_nothing(self):
        for game in small_games():
            again = Game(game.rows + game.rows[:1])
            self.check(again)
            self.assertEqual(worth(again), worth(game))

    def test_a_column_told_again_changes_nothing(self):
        for game in small_games():
            again = Game(tuple(row + row[:1] for row in game.rows))
            self.check(again)
            self.assertEqual(worth(again), worth(game))

    def test_silent_rules_keep_the_worth_from_falling_below_zero(self):
        for game in larger_games():
            if game.rules < 4:
                more = Game(tuple(row + (0,) for row in game.rows))
                self.check(more)
                self.assertEqual(worth(more), max(worth(game), (0, 1)))

    def test_examples_and_rules_in_each_others_place(self):
        for game in larger_games():
            turned = Game(tuple(tuple(-sign for sign in column) for column in zip(*game.rows)))
            top, bottom = worth(game)
            self.assertEqual(worth(turned), (-top, bottom))


class FormOfTheResults(unittest.TestCase):
    def test_plain_tuples_of_integers(self):
        for game in larger_games() + special_games():
            for found in [worth(game), best_votes(game), hard_weights(game)]:
                self.assertIs(type(found), tuple)
                self.assertEqual({type(member) for member in found}, {int})

    def test_the_numbers_are_below_100(self):
        for game in four_by_four_games(1000) + special_games():
            self.assertLess(max(best_votes(game) + hard_weights(game)), 100)

    def test_the_same_each_time(self):
        for game in larger_games() + special_games():
            again = Game(game.rows)
            for function in [worth, best_votes, hard_weights]:
                self.assertEqual(function(game), function(game))
                self.assertEqual(function(game), function(again))

    def test_games_stay_as_they_are(self):
        for game in larger_games():
            before = dict(vars(game))
            for function in [worth, best_votes, hard_weights]:
                function(game)
            self.assertEqual(vars(game), before)

    def test_by_name(self):
        game = Game(((1, 0), (0, 1)))
        self.assertEqual(worth(game=game), (1, 2))
        self.assertEqual(least_margin(game, best_votes(game=game)), (1, 2))
        self.assertEqual(greatest_edge(game, hard_weights(game=game)), (1, 2))


if __name__ == "__main__":
    unittest.main()
