"""Point [14] and promise (10): faults."""

import unittest
from itertools import combinations

from tests.helpers import (
    OwnTuple, counts, four_by_four_games, larger_games, never_right, small_games, special_games, wrong_numbers,
)
from votemargins.errors import InvalidKind, InvalidNumber, InvalidVotes, Undefined
from votemargins.faults import breakers, withstands
from votemargins.games import Game
from votemargins.margins import gains

KINDS = ("silent", "lying")
ALL_RIGHT = Game(((1, 1, 1, 1),))
MIXED = Game(((1, -1, 0, 1), (1, 1, -1, -1), (0, 0, 1, 0)))

WRONG_KINDS = [
    "", "Silent", "silent ", " lying", "LYING", "silently", "wrong", "right", "s", 0, 1, 2, -1, True, False, None,
    (), ("silent",), ["lying"], [], ("silent", "lying"), Game(((1,),)), Undefined("silent"), "x" * 4000, (1,) * 30000,
]


def gain_with(game, votes, example, kind, rules):
    """The gain if these rules have the fault, sign by sign."""
    total = 0
    for rule, sign in enumerate(game.rows[example]):
        if rule in rules:
            sign = 0 if kind == "silent" else -sign
        total += votes[rule] * sign
    return total


def withstands_by_all(game, votes, example, kind):
    """The greatest number below that of the rules such that no so many rules break the votes, by going over all."""
    return max(
        many for many in range(game.rules)
        if all(gain_with(game, votes, example, kind, rules) > 0 for rules in combinations(range(game.rules), many))
    )


def some_votes(game):
    """Votes with few and with great numbers, and with one rule alone."""
    told = [votes for votes in counts(game.rules, 2 if game.rules > 2 else 4)]
    told += [(999999,) * game.rules, (5, 3, 2, 1)[:game.rules], (1, 999999, 999998, 2)[:game.rules]]
    told += [tuple(7 * (rule == k) for rule in range(game.rules)) for k in range(game.rules)]
    return told


class Faults(unittest.TestCase):
    def undefined(self, *told):
        for function in [withstands, breakers]:
            with self.assertRaises(Undefined) as caught:
                function(*told)
            self.assertIs(type(caught.exception), Undefined)
            self.assertEqual(caught.exception.what, "right")

    def test_told_by_hand(self):
        for votes, kind, many, broken in [
            ((1, 1, 1, 1), "silent", 3, (0, 1, 2, 3)),
            ((1, 1, 1, 1), "lying", 1, (0, 1)),
            ((2, 1, 1, 1), "lying", 1, (0, 1)),
            ((1, 1, 1, 2), "lying", 1, (0, 3)),
            ((4, 1, 1, 1), "lying", 0, (0,)),
            ((1, 1, 1, 3), "lying", 0, (3,)),
            ((5, 0, 0, 0), "silent", 0, (0,)),
            ((0, 0, 0, 1), "silent", 0, (3,)),
            ((0, 0, 0, 1), "lying", 0, (3,)),
            ((0, 1, 1, 1), "lying", 1, (1, 2)),
            ((999999, 999999, 999999, 999998), "lying", 1, (0, 1)),
            ((999999, 999999, 999999, 999999), "silent", 3, (0, 1, 2, 3)),
        ]:
            self.assertEqual(withstands(ALL_RIGHT, votes, 0, kind), many, (votes, kind))
            self.assertEqual(breakers(ALL_RIGHT, votes, 0, kind), broken, (votes, kind))

    def test_rules_that_are_silent_or_wrong_already(self):
        # Gains 2 - 1 + 2 = 3: what rule 1 adds is below 0, what rule 2 adds is 0.
        self.assertEqual(withstands(MIXED, (2, 1, 9, 2), 0, "silent"), 1)
        self.assertEqual(breakers(MIXED, (2, 1, 9, 2), 0, "silent"), (0, 3))
        self.assertEqual(withstands(MIXED, (2, 1, 9, 2), 0, "lying"), 0)
        self.assertEqual(breakers(MIXED, (2, 1, 9, 2), 0, "lying"), (0,))
        self.assertEqual(breakers(MIXED, (1, 1, 9, 2), 0, "lying"), (0,))
        self.assertEqual(breakers(MIXED, (1, 1, 9, 3), 0, "lying"), (3,))
        self.assertEqual(withstands(MIXED, (9, 9, 1, 9), 2, "silent"), 0)
        self.assertEqual(breakers(MIXED, (9, 9, 1, 9), 2, "lying"), (2,))
        self.assertEqual(withstands(Game(((1, -1, -1, -1),)), (9, 1, 1, 1), 0, "lying"), 0)

    def test_just_right(self):
        game = Game(((1, 1, -1),))
        self.assertEqual(gains(game, (1, 1, 1)), (1,))
        self.assertEqual(withstands(game, (1, 1, 1), 0, "silent"), 0)
        self.assertEqual(breakers(game, (1, 1, 1), 0, "silent"), (0,))
        self.assertEqual(withstands(game, (3, 3, 5), 0, "silent"), 0)
        self.assertEqual(withstands(game, (3, 3, 0), 0, "silent"), 1)
        self.assertEqual(withstands(game, (3, 3, 0), 0, "lying"), 0)
        self.undefined(game, (1, 1, 2), 0, "silent")
        self.undefined(game, (1, 1, 3), 0, "lying")

    def test_one_rule(self):
        for kind in KINDS:
            self.assertEqual(withstands(Game(((1,),)), (999999,), 0, kind), 0)
            self.assertEqual(breakers(Game(((1,),)), (999999,), 0, kind), (0,))
            self.undefined(Game(((0,),)), (999999,), 0, kind)
            self.undefined(Game(((-1,),)), (1,), 0, kind)

    def test_by_all_choices(self):
        for game in small_games() + larger_games() + special_games() + four_by_four_games(10):
            for votes in some_votes(game):
                for example, gain in enumerate(gains(game, votes)):
                    for kind in KINDS:
                        if gain > 0:
                            self.check(game, votes, example, kind)
                        else:
                            self.undefined(game, votes, example, kind)

    def check(self, game, votes, example, kind):
        many = withstands_by_all(game, votes, example, kind)
        self.assertEqual(withstands(game, votes, example, kind), many)
        broken = breakers(game, votes, example, kind)
        choices = combinations(range(game.rules), many + 1)
        self.assertEqual(broken, next(rules for rules in choices if gain_with(game, votes, example, kind, rules) <= 0))
        self.assertIs(type(many), int)
        self.assertIs(type(broken), tuple)
        self.assertEqual({type(rule) for rule in broken}, {int})

    def test_the_same_each_time_and_nothing_changes(self):
        for game in larger_games():
            before = dict(vars(game))
            for votes in [(1,) * game.rules, OwnTuple((1,) * game.rules)]:
                for example, gain in enumerate(gains(game, votes)):
                    if gain > 0:
                        for kind in KINDS:
                            told = breakers(Game(game.rows), tuple(votes), example, kind)
                            self.assertEqual(breakers(game, votes, example, kind), told)
            self.assertEqual(vars(game), before)

    def test_by_name(self):
        told = {"game": ALL_RIGHT, "votes": (1, 1, 1, 1), "example": 0, "kind": "lying"}
        self.assertEqual(withstands(**told), 1)
        self.assertEqual(breakers(**told), (0, 1))


class Errors(unittest.TestCase):
    def refused(self, error_class, value, *told):
        for function in [withstands, breakers]:
            with self.assertRaises(error_class) as caught:
                function(*told)
            self.assertIs(type(caught.exception), error_class)
            self.assertIs(caught.exception.value, value)

    def test_votes(self):
        for game in [Game(((1,),)), ALL_RIGHT, MIXED]:
            for value in never_right() + [(1,) * (game.rules + 1), (0,) * game.rules, [1] * game.rules]:
                self.refused(InvalidVotes, value, game, value, 0, "silent")

    def test_examples(self):
        for game in [Game(((1,),)), ALL_RIGHT, MIXED]:
            for value in wrong_numbers() + [game.examples, game.examples + 1, "silent"]:
                self.refused(InvalidNumber, value, game, (1,) * game.rules, value, "silent")

    def test_kinds(self):
        for game in [Game(((1,),)), ALL_RIGHT, MIXED]:
            for value in WRONG_KINDS:
                self.refused(InvalidKind, value, game, (1,) * game.rules, 0, value)

    def test_their_order(self):
        game = Game(((-1, 1), (1, 1)))
        self.refused(InvalidVotes, (1,), game, (1,), 2, "mute")
        self.refused(InvalidVotes, None, game, None, None, None)
        self.refused(InvalidNumber, 2, game, (1, 1), 2, "mute")
        self.refused(InvalidNumber, True, game, (1, 1), True, ["silent"])
        self.refused(InvalidKind, "mute", game, (1, 1), 0, "mute")
        for kind in KINDS:
            with self.assertRaises(Undefined):
                withstands(game, (1, 1), 0, kind)


if __name__ == "__main__":
    unittest.main()
