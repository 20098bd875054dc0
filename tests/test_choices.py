"""Point [9] and promise (4): some examples left out, or few rules."""

import unittest
from itertools import combinations

from tests.helpers import (
    counts, four_by_four_games, larger_games, margins_of, pair_of, small_games, special_games, worth_by_steps,
    wrong_numbers,
)
from votemargins.choices import with_few, without
from votemargins.errors import InvalidNumber
from votemargins.games import Game
from votemargins.worths import worth

UNIT = Game(((1, 0, 0, 0), (0, 1, 0, 0), (0, 0, 1, 0), (0, 0, 0, 1)))
ONE_BAD = Game(((1, 1), (1, 0), (-1, -1), (0, 1)))


def first_of_the_greatest(told):
    """Of (fraction, choice) the greatest fraction and the least tuple that has it."""
    greatest = max(fraction for fraction, _ in told)
    return pair_of(greatest), min(choice for fraction, choice in told if fraction == greatest)


def without_by_all(game, r):
    """What without should return, by going over all choices."""
    told = []
    for left in combinations(range(game.examples), r):
        rows = [game.rows[k] for k in range(game.examples) if k not in left]
        told.append((worth_by_steps(rows), left))
    return first_of_the_greatest(told)


def with_few_by_all(game, k):
    """What with_few should return, by going over all choices."""
    told = []
    for taken in combinations(range(game.rules), k):
        rows = [[row[rule] for rule in taken] for row in game.rows]
        told.append((worth_by_steps(rows), taken))
    return first_of_the_greatest(told)


class Without(unittest.TestCase):
    def test_told_by_hand(self):
        self.assertEqual(without(UNIT, 0), ((1, 4), ()))
        self.assertEqual(without(UNIT, 1), ((1, 3), (0,)))
        self.assertEqual(without(UNIT, 2), ((1, 2), (0, 1)))
        self.assertEqual(without(UNIT, 3), ((1, 1), (0, 1, 2)))
        self.assertEqual(without(ONE_BAD, 0), ((-1, 1), ()))
        self.assertEqual(without(ONE_BAD, 1), ((1, 2), (2,)))
        self.assertEqual(without(ONE_BAD, 2), ((1, 1), (1, 2)))
        self.assertEqual(without(ONE_BAD, 3), ((1, 1), (0, 1, 2)))

    def test_by_all_choices(self):
        for game in small_games() + larger_games() + four_by_four_games(100) + special_games():
            for r in range(game.examples):
                self.assertEqual(without(game, r), without_by_all(game, r), (game.rows, r))

    def test_none_left_out(self):
        for game in small_games() + larger_games() + special_games():
            self.assertEqual(without(game, 0), (worth(game), ()))

    def test_the_first_where_rows_are_alike(self):
        for row in [(0, 0, 0, 0), (1, -1, 0, 1), (-1, -1, -1, -1), (-1,), (1,)]:
            game = Game((row,) * 4)
            for r in range(4):
                self.assertEqual(without(game, r), ((max(row), 1), tuple(range(r))))

    def test_the_greatest_as_numbers(self):
        # One left out leaves 0, 1 / 3 or 1 / 2: as tuples (1, 3) would be the greatest.
        game = Game(((-1, 0, 1), (-1, 1, 0), (1, -1, 0)))
        self.assertEqual(without(game, 1), ((1, 2), (2,)))

    def test_refused(self):
        for game in [Game(((1,),)), ONE_BAD, UNIT] + larger_games():
            for value in wrong_numbers() + [game.examples, game.examples + 1, 4, 5]:
                with self.assertRaises(InvalidNumber) as caught:
                    without(game, value)
                self.assertIs(type(caught.exception), InvalidNumber)
                self.assertIs(caught.exception.value, value)

    def test_by_name(self):
        self.assertEqual(without(game=UNIT, r=1), ((1, 3), (0,)))


class WithFew(unittest.TestCase):
    def test_told_by_hand(self):
        self.assertEqual(with_few(UNIT, 1), ((0, 1), (0,)))
        self.assertEqual(with_few(UNIT, 2), ((0, 1), (0, 1)))
        self.assertEqual(with_few(UNIT, 3), ((0, 1), (0, 1, 2)))
        self.assertEqual(with_few(UNIT, 4), ((1, 4), (0, 1, 2, 3)))
        game = Game(((-1, 0, 1, 0), (1, -1, 0, 1)))
        self.assertEqual(with_few(game, 1), ((0, 1), (2,)))
        self.assertEqual(with_few(game, 2), ((1, 2), (2, 3)))
        self.assertEqual(with_few(game, 3), ((1, 2), (0, 2, 3)))
        self.assertEqual(with_few(game, 4), ((1, 2), (0, 1, 2, 3)))

    def test_by_all_choices(self):
        for game in small_games() + larger_games() + four_by_four_games(100) + special_games():
            for k in range(1, game.rules + 1):
                self.assertEqual(with_few(game, k), with_few_by_all(game, k), (game.rows, k))

    def test_all_rules(self):
        for game in small_games() + larger_games() + special_games():
            self.assertEqual(with_few(game, game.rules), (worth(game), tuple(range(game.rules))))

    def test_one_rule(self):
        for game in small_games() + larger_games() + special_games():
            least = [min(column) for column in zip(*game.rows)]
            self.assertEqual(with_few(game, 1), ((max(least), 1), (least.index(max(least)),)))

    def test_the_first_where_columns_are_alike(self):
        for column in [(0, 0, 0), (1, -1, 0), (1, 1, 1), (-1,), (1,)]:
            game = Game(tuple((sign,) * 4 for sign in column))
            for k in range(1, 5):
                self.assertEqual(with_few(game, k), ((min(column), 1), tuple(range(k))))

    def test_the_greatest_as_numbers(self):
        # Two taken have 0, 1 / 3 or 1 / 2: as tuples (1, 3) would be the greatest.
        self.assertEqual(with_few(Game(((-1, 0, 1), (-1, 0, 1), (1, 1, 0))), 2), ((1, 2), (1, 2)))

    def test_no_votes_with_so_few_have_more(self):
        for game in larger_games():
            for votes in counts(game.rules, 2):
                used = sum(number > 0 for number in votes)
                margin = min(margins_of(game, votes))
                for k in range(used, game.rules + 1):
                    top, bottom = with_few(game, k)[0]
                    self.assertLessEqual(margin * bottom, top)

    def test_refused(self):
        for game in [Game(((1,),)), ONE_BAD, UNIT] + larger_games():
            for value in wrong_numbers() + [0, game.rules + 1, game.rules + 2, 5]:
                with self.assertRaises(InvalidNumber) as caught:
                    with_few(game, value)
                self.assertIs(type(caught.exception), InvalidNumber)
                self.assertIs(caught.exception.value, value)

    def test_by_name(self):
        self.assertEqual(with_few(game=UNIT, k=4), ((1, 4), (0, 1, 2, 3)))


class Both(unittest.TestCase):
    def calls(self):
        for game in larger_games():
            for r in range(game.examples):
                yield without, game, r
            for k in range(1, game.rules + 1):
                yield with_few, game, k

    def test_plain_tuples_of_integers(self):
        for function, game, number in self.calls():
            found = function(game, number)
            self.assertIs(type(found), tuple)
            self.assertEqual([type(part) for part in found], [tuple, tuple])
            self.assertEqual([type(part) for part in found[0]], [int, int])
            self.assertEqual([type(part) for part in found[1]], [int] * number)

    def test_the_same_each_time_and_nothing_changes(self):
        for function, game, number in self.calls():
            before = dict(vars(game))
            self.assertEqual(function(game, number), function(Game(game.rows), number))
            self.assertEqual(vars(game), before)


if __name__ == "__main__":
    unittest.main()
