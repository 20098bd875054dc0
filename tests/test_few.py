"""Point [10], the votes of point [11], and promise (5): the fewest votes, and votes of a told sum."""

import unittest

from tests.helpers import (
    CIRCLE, PATIENT, first_by_all, four_by_four_games, games_from, fixed_signs, larger_games, margins_of, rows_of_size,
    small_games, special_games, wrong_numbers,
)
from votemargins.errors import InvalidNumber, Undefined
from votemargins.few import few_votes, fewest, votes_of
from votemargins.games import Game
from votemargins.margins import are_votes
from votemargins.worths import worth

THIRD = Game(((1, -1, 1), (1, 1, -1), (-1, 1, 1)))

FEWEST = [
    (((1,),), 1, (1,)),
    (((1,), (1,), (1,), (1,)), 1, (1,)),
    (((0, 1, 1, -1),), 1, (0, 0, 1, 0)),
    (((-1, 0, 0, 1),), 1, (0, 0, 0, 1)),
    (((1, 1, 1, 1),) * 4, 1, (0, 0, 0, 1)),
    (((1, 0), (0, 1)), 2, (1, 1)),
    (((1, 0), (-1, 1)), 3, (1, 2)),
    (THIRD.rows, 3, (1, 1, 1)),
    (((1, 0, 0, 0), (0, 1, 0, 0), (0, 0, 1, 0), (0, 0, 0, 1)), 4, (1, 1, 1, 1)),
    (((1, 1, 0, 0), (0, 0, 1, 1)), 2, (0, 1, 0, 1)),
    (((-1, 1, 1, 1), (1, -1, 1, 1), (1, 1, -1, 1), (1, 1, 1, -1)), 3, (0, 1, 1, 1)),
]

NEVER = [
    ((0,),), ((-1,),), ((1,), (0,)), ((1,), (-1,)), ((0, 0, 0, 0),) * 4, ((-1, 0, -1, 0),), ((1, -1), (-1, 1)),
    ((1, 1, 1, 1), (0, 0, 0, 0)), ((0, 1, -1), (-1, 0, 1), (1, -1, 0)), CIRCLE.rows,
    ((1, -1, -1, -1), (-1, 1, -1, -1), (-1, -1, 1, -1), (-1, -1, -1, 1)),
]


def many_games():
    return small_games() + larger_games() + special_games() + four_by_four_games(20) + games_from(fixed_signs(), 3, 3, 60)


class Checks(unittest.TestCase):
    def undefined(self, function, *told):
        with self.assertRaises(Undefined) as caught:
            function(*told)
        self.assertIs(type(caught.exception), Undefined)
        self.assertEqual(caught.exception.what, "right")


class Fewest(Checks):
    def test_told_by_hand(self):
        for rows, many, votes in FEWEST:
            self.assertEqual(fewest(Game(rows)), many, rows)
            self.assertEqual(few_votes(Game(rows)), votes, rows)

    def test_none(self):
        for rows in NEVER:
            self.undefined(fewest, Game(rows))
            self.undefined(few_votes, Game(rows))

    def test_by_all_votes_of_each_sum(self):
        for game in many_games():
            found = [many for many in range(1, 25) if first_by_all(game, many)]
            if found:
                self.assertEqual(fewest(game), found[0], game.rows)
                self.assertEqual(few_votes(game), first_by_all(game, found[0]), game.rows)
            elif worth(game)[0] <= 0:
                self.undefined(fewest, game)
                self.undefined(few_votes, game)
            else:
                self.assertGreater(fewest(game), 24)

    def test_all_games_of_two_and_three(self):
        for examples, rules in [(2, 3), (3, 2)]:
            for rows in rows_of_size(examples, rules):
                game = Game(rows)
                found = [many for many in range(1, 10) if first_by_all(game, many)]
                if found:
                    self.assertEqual((fewest(game), few_votes(game)), (found[0], first_by_all(game, found[0])))
                else:
                    self.undefined(fewest, game)

    def test_exactly_if_the_worth_is_above_zero(self):
        for game in many_games() + four_by_four_games(300):
            if worth(game)[0] > 0:
                self.assertIn(fewest(game), range(1, 65))
                self.assertGreater(min(margins_of(game, few_votes(game))), 0)
            else:
                self.undefined(fewest, game)
                self.undefined(few_votes, game)

    def test_many_votes(self):
        for rows, many in PATIENT:
            game = Game(rows)
            self.assertEqual(fewest(game), many)
            self.assertEqual(few_votes(game), first_by_all(game, many))
            for less in range(1, many):
                self.assertIsNone(first_by_all(game, less))
        self.assertEqual(few_votes(Game(PATIENT[0][0])), (3, 6, 8, 10))

    def test_votes_of_their_sum(self):
        for game in many_games() + four_by_four_games(300):
            if worth(game)[0] > 0:
                votes = few_votes(game)
                self.assertTrue(are_votes(game, votes))
                self.assertEqual(sum(votes), fewest(game))


class VotesOf(Checks):
    def test_by_all_votes_of_each_sum(self):
        for game in many_games():
            for many in range(1, 25):
                votes = first_by_all(game, many)
                if votes:
                    self.assertEqual(votes_of(game, many), votes, (game.rows, many))
                else:
                    self.undefined(votes_of, game, many)

    def test_some_none_and_again_some(self):
        self.assertEqual(votes_of(THIRD, 3), (1, 1, 1))
        self.undefined(votes_of, THIRD, 4)
        self.assertEqual(votes_of(THIRD, 5), (1, 2, 2))
        self.assertEqual(votes_of(THIRD, 6), (2, 2, 2))
        self.undefined(votes_of, THIRD, 1)
        self.undefined(votes_of, THIRD, 2)

    def test_the_first(self):
        self.assertEqual(votes_of(Game(((1, 1, 1, 1),)), 24), (0, 0, 0, 24))
        self.assertEqual(votes_of(Game(((1, 0, 0, -1),)), 24), (1, 0, 23, 0))
        self.assertEqual(votes_of(Game(((1, 0), (-1, 1))), 24), (1, 23))
        self.assertEqual(votes_of(Game(((1,),)), 24), (24,))

    def test_never_and_not_yet(self):
        for rows in NEVER:
            for many in (1, 2, 12, 23, 24):
                self.undefined(votes_of, Game(rows), many)
        for rows, least in PATIENT:
            for many in range(1, min(least, 25)):
                self.undefined(votes_of, Game(rows), many)
        self.assertEqual(sum(votes_of(Game(PATIENT[3][0]), 23)), 23)

    def test_refused(self):
        for game in [Game(((1,),)), Game(((-1,),)), THIRD, CIRCLE]:
            for value in wrong_numbers() + [0, 25, 26, 64, 65]:
                with self.assertRaises(InvalidNumber) as caught:
                    votes_of(game, value)
                self.assertIs(type(caught.exception), InvalidNumber)
                self.assertIs(caught.exception.value, value)


class FormOfTheResults(unittest.TestCase):
    def test_plain_tuples_of_integers(self):
        for game in larger_games() + [Game(rows) for rows, _ in PATIENT]:
            if worth(game)[0] > 0:
                self.assertIs(type(fewest(game)), int)
                for found in [few_votes(game), votes_of(game, 24) if first_by_all(game, 24) else few_votes(game)]:
                    self.assertIs(type(found), tuple)
                    self.assertEqual({type(number) for number in found}, {int})

    def test_the_same_each_time_and_nothing_changes(self):
        for game in larger_games():
            if worth(game)[0] > 0:
                before = dict(vars(game))
                again = Game(game.rows)
                self.assertEqual(fewest(game), fewest(again))
                self.assertEqual(few_votes(game), few_votes(again))
                self.assertEqual(votes_of(game, fewest(game)), few_votes(again))
                self.assertEqual(vars(game), before)

    def test_by_name(self):
        self.assertEqual(fewest(game=THIRD), 3)
        self.assertEqual(few_votes(game=THIRD), (1, 1, 1))
        self.assertEqual(votes_of(game=THIRD, many=3), (1, 1, 1))
        self.assertEqual(votes_of(many=5, game=THIRD), (1, 2, 2))


if __name__ == "__main__":
    unittest.main()
