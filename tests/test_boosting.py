"""Points [12] and [13] and promises (7), (8) and (9): boosting, its weights and its potential."""

import unittest
from fractions import Fraction
from itertools import product

from tests.helpers import (
    OwnTuple, edges_of, four_by_four_games, larger_games, never_right, pair_of, small_games, special_games,
    wrong_numbers,
)
from votemargins.boosting import boosted, potential, weights_after
from votemargins.errors import InvalidNumber, InvalidRules
from votemargins.games import Game

TWO_BY_THREE = Game(((1, 0, -1), (-1, 1, 0)))
THIRD = Game(((1, -1, 1), (1, 1, -1), (-1, 1, 1)))
ONE = Game(((1,),))


def games():
    return small_games() + larger_games() + special_games() + four_by_four_games(20)


def some_rounds(game):
    """Rounds of several lengths with this game's rules."""
    most = game.rules - 1
    yield from product(range(game.rules), repeat=1)
    yield from product(range(game.rules), repeat=2)
    yield from [(), (0,) * 12, (most,) * 12, (0, most) * 6, tuple(k % game.rules for k in range(12)), (most, 0, 0)]


def weights_by_halves(game, rules):
    """The weights, by the document's words, in fractions that are not halved."""
    found = []
    for row in game.rows:
        weight = Fraction(1)
        for rule in rules:
            weight *= {1: Fraction(1), 0: Fraction(2), -1: Fraction(4)}[row[rule]]
        found.append(weight)
    return found


def potential_by_halves(game, rules):
    return sum(weights_by_halves(game, rules)) / Fraction(2) ** len(rules)


class WeightsAfter(unittest.TestCase):
    def test_told_by_hand(self):
        self.assertEqual(weights_after(TWO_BY_THREE, ()), (1, 1))
        self.assertEqual(weights_after(TWO_BY_THREE, (0,)), (1, 4))
        self.assertEqual(weights_after(TWO_BY_THREE, (1,)), (2, 1))
        self.assertEqual(weights_after(TWO_BY_THREE, (2,)), (4, 2))
        self.assertEqual(weights_after(TWO_BY_THREE, (2, 2, 0)), (16, 16))
        self.assertEqual(weights_after(TWO_BY_THREE, (0, 2, 2)), (16, 16))
        self.assertEqual(weights_after(Game(((-1,),)), (0,) * 12), (4 ** 12,))
        self.assertEqual(weights_after(Game(((0,),)), (0,) * 12), (4096,))
        self.assertEqual(weights_after(ONE, (0,) * 12), (1,))
        self.assertEqual(weights_after(Game(((-1, 1),) * 4), (0,) * 11 + (1,)), (4 ** 11,) * 4)

    def test_by_fractions(self):
        for game in games():
            for rules in some_rounds(game):
                self.assertEqual(list(weights_after(game, rules)), weights_by_halves(game, rules))

    def test_plain_tuple_of_integers(self):
        for game in larger_games():
            for rules in [(), (0,), OwnTuple((0, 0))]:
                found = weights_after(game, rules)
                self.assertIs(type(found), tuple)
                self.assertEqual([type(weight) for weight in found], [int] * game.examples)

    def test_by_name(self):
        self.assertEqual(weights_after(game=TWO_BY_THREE, rules=(2,)), (4, 2))
        self.assertEqual(weights_after(rules=(), game=TWO_BY_THREE), (1, 1))


class Potential(unittest.TestCase):
    def test_told_by_hand(self):
        self.assertEqual(potential(TWO_BY_THREE, ()), (2, 1))
        self.assertEqual(potential(TWO_BY_THREE, (0,)), (5, 2))
        self.assertEqual(potential(TWO_BY_THREE, (1,)), (3, 2))
        self.assertEqual(potential(TWO_BY_THREE, (2,)), (3, 1))
        self.assertEqual(potential(TWO_BY_THREE, (1, 0)), (3, 2))
        self.assertEqual(potential(ONE, (0,) * 12), (1, 4096))
        self.assertEqual(potential(Game(((0,),)), (0,) * 12), (1, 1))
        self.assertEqual(potential(Game(((-1,),) * 4), (0,) * 12), (4 * 4096, 1))

    def test_by_fractions(self):
        for game in games():
            for rules in some_rounds(game):
                self.assertEqual(potential(game, rules), pair_of(potential_by_halves(game, rules)))

    def test_no_more_examples_are_not_right(self):
        for game in games():
            for rules in some_rounds(game):
                wrong = sum(sum(row[rule] for rule in rules) <= 0 for row in game.rows)
                self.assertGreaterEqual(Fraction(*potential(game, rules)), wrong, (game.rows, rules))

    def test_what_a_round_makes_of_it(self):
        for game in games():
            for rules in some_rounds(game):
                if len(rules) < 12:
                    for rule, edge in enumerate(edges_of(game, weights_after(game, rules))):
                        most = Fraction(*potential(game, rules)) * (Fraction(5, 4) - Fraction(3, 4) * edge)
                        behind = Fraction(*potential(game, rules + (rule,)))
                        self.assertLessEqual(behind, most)
                        if all(row[rule] != 0 for row in game.rows):
                            self.assertEqual(behind, most)

    def test_plain_pair(self):
        for game in larger_games():
            found = potential(game=game, rules=(0, 0))
            self.assertIs(type(found), tuple)
            self.assertEqual([type(part) for part in found], [int, int])


class Boosted(unittest.TestCase):
    def test_told_by_hand(self):
        self.assertEqual(boosted(THIRD, 0), ())
        self.assertEqual(boosted(THIRD, 1), (0,))
        self.assertEqual(boosted(THIRD, 2), (0, 1))
        self.assertEqual(boosted(THIRD, 3), (0, 1, 2))
        self.assertEqual(boosted(TWO_BY_THREE, 1), (1,))
        self.assertEqual(boosted(ONE, 12), (0,) * 12)
        self.assertEqual(boosted(Game(((-1,),)), 12), (0,) * 12)
        self.assertEqual(boosted(Game(((0, 0, 0, 0),) * 4), 12), (0,) * 12)
        self.assertEqual(boosted(Game(((-1, 0, 1, 1),)), 12), (2,) * 12)

    def test_each_is_the_first_with_the_greatest_edge(self):
        for game in games() + four_by_four_games(200):
            rules = boosted(game, 12)
            self.assertEqual(len(rules), 12)
            for at, rule in enumerate(rules):
                edges = edges_of(game, weights_by_halves(game, rules[:at]))
                self.assertEqual(rule, edges.index(max(edges)), (game.rows, rules, at))

    def test_fewer_rounds_are_the_first_ones(self):
        for game in games():
            rules = boosted(game, 12)
            for many in range(13):
                self.assertEqual(boosted(game, many), rules[:many])

    def test_plain_tuple_of_integers(self):
        for game in larger_games():
            found = boosted(game, 12)
            self.assertIs(type(found), tuple)
            self.assertEqual({type(rule) for rule in found}, {int})
            self.assertIs(type(boosted(game, 0)), tuple)

    def test_by_name(self):
        self.assertEqual(boosted(game=THIRD, many=3), (0, 1, 2))
        self.assertEqual(boosted(many=1, game=TWO_BY_THREE), (1,))


class WrongArguments(unittest.TestCase):
    def refused(self, error_class, function, game, value):
        with self.assertRaises(error_class) as caught:
            function(game, value)
        self.assertIs(type(caught.exception), error_class)
        self.assertIs(caught.exception.value, value)

    def test_rules(self):
        wrong = [value for value in never_right() if value not in ((), ((),))]
        wrong += [[0], [0, 1], [], (0,) * 13, (0,) * 24, (-1,), (0, -1), (True,), (False,), (0, True), (None,), ("0",),
                  ((0,),), ([0],), (0, (0,)), "0", 0, None, True, (999999999999,), (0,) * 30000, {0}, range(1)]
        for game in [ONE, TWO_BY_THREE, THIRD, Game(((1, 0, 0, 1),))]:
            more = [(game.rules,), (0, game.rules), (4,), (0,) * 11 + (game.rules,)]
            for value in wrong + more:
                if not self.are_rules(game, value):
                    self.refused(InvalidRules, weights_after, game, value)
                    self.refused(InvalidRules, potential, game, value)

    def are_rules(self, game, value):
        if type(value) is not tuple or len(value) > 12:
            return False
        return all(type(rule) is int and 0 <= rule < game.rules for rule in value)

    def test_numbers(self):
        for game in [ONE, TWO_BY_THREE, THIRD]:
            for value in wrong_numbers() + [13, 14, 24, 64]:
                self.refused(InvalidNumber, boosted, game, value)

    def test_the_bounds(self):
        self.assertEqual(weights_after(ONE, (0,) * 12), (1,))
        self.refused(InvalidRules, weights_after, ONE, (0,) * 13)
        self.assertEqual(len(boosted(ONE, 12)), 12)
        self.refused(InvalidNumber, boosted, ONE, 13)


class NothingChanges(unittest.TestCase):
    def test_games_stay_as_they_are_and_results_the_same(self):
        for game in larger_games():
            before = dict(vars(game))
            again = Game(game.rows)
            for rules in some_rounds(game):
                self.assertEqual(weights_after(game, rules), weights_after(again, rules))
                self.assertEqual(potential(game, rules), potential(again, rules))
            self.assertEqual(boosted(game, 12), boosted(again, 12))
            self.assertEqual(vars(game), before)

    def test_wrong_arguments_stay_as_they_are(self):
        value = [0, [1]]
        for function in [weights_after, potential]:
            with self.assertRaises(InvalidRules):
                function(TWO_BY_THREE, value)
        self.assertEqual(value, [0, [1]])


if __name__ == "__main__":
    unittest.main()
