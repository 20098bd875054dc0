"""Point [15] and promise (11): questions, and the one true claim that answers each."""

import unittest

from tests.asking import all_questions, answer_by_words, claim_by_words, claims_for, question_by_words
from tests.helpers import (
    CIRCLE, PATIENT, OwnTuple, altered, four_by_four_games, larger_games, never_right, not_ratios, small_games,
    special_games, wrong_numbers,
)
from votemargins.claims import answer_of, is_claim, is_question, question_of
from votemargins.errors import InvalidClaim, InvalidQuestion
from votemargins.games import Game

ONE = Game(((1,),))
THIRD = Game(((1, -1, 1), (1, 1, -1), (-1, 1, 1)))
TWO_BY_THREE = Game(((1, 0, -1), (-1, 1, 0)))
NOTHING = Game(((1, -1), (-1, 1)))

WORDS = ["worth", "margin", "no margin", "votes", "no votes", "fewest", "never", "faults", "not right"]


def all_claims(game):
    return [claim for question in all_questions(game) for claim in claims_for(game, question)]


def ill_formed():
    """Values that are neither a question nor a claim for any game."""
    told = [value for value in never_right() if value != ("votes",)]
    told += [(word,) for word in WORDS if word not in ("worth", "fewest", "never")]
    told += [(word, None) for word in WORDS] + [(word, 0) for word in WORDS] + [(word, 65) for word in WORDS]
    told += [(word, True) for word in WORDS] + [(word, ()) for word in WORDS] + [[word] for word in WORDS] + WORDS
    told += [(word, 1, 1) for word in WORDS] + [(word, (1, 2), 1) for word in WORDS]
    told += [(word, ratio) for word in ("worth", "margin", "no margin") for ratio in not_ratios()]
    told += [(word, many) for word in ("votes", "no votes") for many in wrong_numbers() + [0, 25, 64]]
    told += [("fewest", many) for many in wrong_numbers() + [0, 65]]
    told += [("never", 1), ("never", ()), ("no fewest",), ("WORTH",), (" worth",), ("worths",), ("",), (("worth",),)]
    return told


class WhatTheyAre(unittest.TestCase):
    def test_told_by_hand(self):
        for value, question, claim in [
            (("worth",), True, False), (("worth", (1, 3)), False, True), (("worth", (2, 6)), False, False),
            (("margin", (1, 3)), True, True), (("no margin", (1, 3)), False, True), (("margin", (3, 3)), False, False),
            (("margin", (999999, 999998)), True, True), (("margin", (1000000, 1)), False, False),
            (("no margin", (-999999, 1)), False, True), (("margin", (1, 1000000)), False, False),
            (("votes", 1), True, True), (("votes", 24), True, True), (("votes", 25), False, False),
            (("votes", 0), False, False), (("no votes", 24), False, True), (("no votes", 25), False, False),
            (("fewest",), True, False), (("fewest", 1), False, True), (("fewest", 64), False, True),
            (("fewest", 65), False, False), (("fewest", 0), False, False), (("never",), False, True),
            (("faults", (1, 1, 1), 2, "silent"), True, False), (("faults", (1, 1, 1), 3, "silent"), False, False),
            (("faults", (1, 1), 0, "silent"), False, False), (("faults", (0, 0, 0), 0, "lying"), False, False),
            (("faults", (0, 0, 999999), 0, "lying"), True, False), (("faults", (1, 1, 1), 0, "mute"), False, False),
            (("faults", (1, 1, 1), 0, "lying", 0), False, True), (("faults", (1, 1, 1), 0, "lying", -1), False, False),
            (("faults", (1, 1, 1), 0, "lying", 999999999999), False, True),
            (("not right", (1, 1, 1), 0, "lying"), False, True),
            (("not right", (1, 1, 1), 0, "lying", 0), False, False),
        ]:
            self.assertIs(is_question(THIRD, value), question, value)
            self.assertIs(is_claim(THIRD, value), claim, value)

    def test_all_that_are(self):
        for game in [ONE, THIRD, TWO_BY_THREE, CIRCLE]:
            for question in all_questions(game):
                self.assertIs(is_question(game, question), True)
                for claim in claims_for(game, question):
                    self.assertIs(is_claim(game, claim), True)

    def test_changed_at_one_place(self):
        for game in [ONE, THIRD, TWO_BY_THREE]:
            for value in all_questions(game) + all_claims(game)[::3]:
                for wrong in altered(value):
                    self.assertIs(is_question(game, wrong), question_by_words(game, wrong), wrong)
                    self.assertIs(is_claim(game, wrong), claim_by_words(game, wrong), wrong)

    def test_for_one_game_and_not_for_another_one(self):
        question = ("faults", (1, 1, 1), 1, "silent")
        for game, told in [(THIRD, True), (TWO_BY_THREE, True), (ONE, False), (NOTHING, False), (CIRCLE, False),
                           (Game(((1, 1, 1),)), False)]:
            self.assertIs(is_question(game, question), told)
            self.assertIs(is_claim(game, question + (0,)), told)
            self.assertIs(is_claim(game, ("not right",) + question[1:]), told)

    def test_any_value(self):
        for game in [ONE, THIRD, CIRCLE]:
            for value in ill_formed():
                self.assertIs(is_question(game, value), False, value)
                self.assertIs(is_claim(game, value), False, value)

    def test_by_name(self):
        self.assertIs(is_question(game=THIRD, value=("worth",)), True)
        self.assertIs(is_claim(value=("never",), game=THIRD), True)


class Answers(unittest.TestCase):
    def test_told_by_hand(self):
        for game, question, claim in [
            (THIRD, ("worth",), ("worth", (1, 3))),
            (THIRD, ("margin", (1, 3)), ("margin", (1, 3))),
            (THIRD, ("margin", (1, 2)), ("no margin", (1, 2))),
            (THIRD, ("votes", 3), ("votes", 3)),
            (THIRD, ("votes", 4), ("no votes", 4)),
            (THIRD, ("fewest",), ("fewest", 3)),
            (NOTHING, ("fewest",), ("never",)),
            (NOTHING, ("votes", 24), ("no votes", 24)),
            (ONE, ("fewest",), ("fewest", 1)),
            (ONE, ("votes", 24), ("votes", 24)),
            (Game(PATIENT[0][0]), ("fewest",), ("fewest", 27)),
            (THIRD, ("faults", (1, 1, 1), 0, "silent"), ("faults", (1, 1, 1), 0, "silent", 0)),
            (THIRD, ("faults", (2, 1, 2), 0, "silent"), ("faults", (2, 1, 2), 0, "silent", 1)),
            (THIRD, ("faults", (1, 2, 1), 0, "lying"), ("not right", (1, 2, 1), 0, "lying")),
            (Game(((1,) * 4,)), ("faults", (1,) * 4, 0, "silent"), ("faults", (1,) * 4, 0, "silent", 3)),
        ]:
            self.assertEqual(answer_of(game, question), claim)

    def test_all_questions(self):
        for game in small_games()[::2] + larger_games()[::2] + special_games() + four_by_four_games(5):
            for question in all_questions(game):
                claim = answer_of(game, question)
                self.assertEqual(claim, answer_by_words(game, question), game.rows)
                self.assertIs(is_claim(game, claim), True)
                self.assertEqual(question_of(game, claim), question)

    def test_each_claim_has_its_question(self):
        for game in [ONE, THIRD, TWO_BY_THREE, CIRCLE]:
            for question in all_questions(game):
                for claim in claims_for(game, question):
                    self.assertEqual(question_of(game, claim), question)

    def test_plain_tuples(self):
        question = OwnTuple(("faults", OwnTuple((2, 1, 2)), 0, "silent"))
        for found in [answer_of(THIRD, question), question_of(THIRD, OwnTuple(question + (1,)))]:
            self.assertIs(type(found), tuple)
            self.assertIs(type(found[1]), tuple)
        for found in [
            answer_of(THIRD, OwnTuple(("margin", OwnTuple((1, 3))))),
            answer_of(THIRD, OwnTuple(("margin", OwnTuple((1, 2))))),
            question_of(THIRD, OwnTuple(("no margin", OwnTuple((1, 2))))),
            answer_of(THIRD, OwnTuple(("worth",))),
            answer_of(THIRD, ("faults", OwnTuple((1, 2, 1)), 0, "lying")),
            question_of(THIRD, ("not right", OwnTuple((1, 2, 1)), 0, "lying")),
        ]:
            self.assertIs(type(found), tuple)
            self.assertIs(type(found[1]), tuple)
        self.assertIs(type(answer_of(THIRD, OwnTuple(("fewest",)))), tuple)
        self.assertIs(type(answer_of(THIRD, OwnTuple(("votes", 4)))), tuple)
        self.assertIs(type(question_of(THIRD, OwnTuple(("never",)))), tuple)

    def test_the_same_each_time_and_nothing_changes(self):
        for game in larger_games()[::5]:
            before = dict(vars(game))
            for question in all_questions(game):
                self.assertEqual(answer_of(game, question), answer_of(Game(game.rows), question))
            self.assertEqual(vars(game), before)

    def test_by_name(self):
        self.assertEqual(answer_of(game=THIRD, question=("worth",)), ("worth", (1, 3)))
        self.assertEqual(question_of(claim=("never",), game=THIRD), ("fewest",))


class Errors(unittest.TestCase):
    def refused(self, error_class, function, game, value):
        with self.assertRaises(error_class) as caught:
            function(game, value)
        self.assertIs(type(caught.exception), error_class)
        self.assertIs(caught.exception.value, value)

    def test_any_value(self):
        for game in [ONE, THIRD, CIRCLE]:
            for value in ill_formed():
                self.refused(InvalidQuestion, answer_of, game, value)
                self.refused(InvalidClaim, question_of, game, value)

    def test_just_what_is_none(self):
        for game in [ONE, THIRD]:
            for value in all_questions(game)[::4] + all_claims(game)[::15]:
                for wrong in altered(value):
                    if not question_by_words(game, wrong):
                        self.refused(InvalidQuestion, answer_of, game, wrong)
                    if not claim_by_words(game, wrong):
                        self.refused(InvalidClaim, question_of, game, wrong)

    def test_arguments_stay_as_they_are(self):
        value = ["faults", [1, 1, 1], 0, "silent"]
        self.assertIs(is_question(THIRD, value), False)
        self.assertIs(is_claim(THIRD, value), False)
        self.refused(InvalidQuestion, answer_of, THIRD, value)
        self.assertEqual(value, ["faults", [1, 1, 1], 0, "silent"])


if __name__ == "__main__":
    unittest.main()
