"""Point [16] and promise (11): papers for claims, whoever made them."""

import unittest
from itertools import combinations

from tests.asking import all_questions, claim_by_words, claims_for, paper_by_words
from tests.helpers import (
    CIRCLE, PATIENT, OwnTuple, altered, first_by_all, four_by_four_games, larger_games, never_right, put, small_games,
    special_games,
)
from votemargins.claims import answer_of
from votemargins.errors import InvalidQuestion
from votemargins.games import Game
from votemargins.papers import claim_holds, paper_of
from votemargins.walls import bars, walls
from votemargins.worths import best_votes, hard_weights

ONE = Game(((1,),))
SILENT = Game(((0,),))
THIRD = Game(((1, -1, 1), (1, 1, -1), (-1, 1, 1)))
HALF = Game(((1, 0), (0, 1)))
NOTHING = Game(((1, -1), (-1, 1)))
ALL_RIGHT = Game(((1, 1, 1, 1),))
PAPERS_OF_EACH_KIND = [ONE, SILENT, THIRD, HALF, NOTHING, CIRCLE]


def some_papers(game):
    """What may be a paper for some claim of the game."""
    votes, weights = best_votes(game), hard_weights(game)
    told = [votes, weights, (votes, weights), (weights, votes), (1,) * game.rules, (1,) * game.examples, (), (votes, ())]
    told += [rules for many in range(1, game.rules + 1) for rules in combinations(range(game.rules), many)]
    told += [0, 1, -1, None, True, False]
    for many in (1, 2, 3, 4, 24):
        found = first_by_all(game, many)
        if found:
            told += [found, (found, ()), (found, ((),))]
        else:
            told += [walls(game, many), (votes, walls(game, many))]
    return told


class EachQuestion(unittest.TestCase):
    def check(self, game):
        pool = some_papers(game)
        for question in all_questions(game):
            claim, paper = answer_of(game, question), paper_of(game, question)
            self.assertIs(claim_holds(game, claim, paper), True, (game.rows, claim, paper))
            for other in claims_for(game, question):
                if other != claim:
                    for told in pool + [paper]:
                        self.assertIs(claim_holds(game, other, told), False, (game.rows, other, told))

    def test_small_games(self):
        for game in small_games()[::2]:
            self.check(game)

    def test_larger_games(self):
        for game in larger_games()[::2] + four_by_four_games(3):
            self.check(game)

    def test_special_games(self):
        for game in special_games()[::2] + [CIRCLE, THIRD]:
            self.check(game)

    def test_games_that_need_many_votes(self):
        for rows, many in PATIENT:
            game = Game(rows)
            paper = paper_of(game, ("fewest",))
            self.assertIs(claim_holds(game, ("fewest", many), paper), True)
            for other in [("never",)] + [("fewest", k) for k in range(1, 65) if k != many]:
                self.assertIs(claim_holds(game, other, paper), False)
            self.assertIs(claim_holds(game, ("no votes", 22), paper_of(game, ("votes", 22))), True)

    def test_papers_are_for_their_claim_alone(self):
        for game in [THIRD, NOTHING]:
            told = [(answer_of(game, question), paper_of(game, question)) for question in all_questions(game)]
            for claim, _ in told:
                for _, paper in told:
                    expected = paper_by_words(game, claim, paper)
                    self.assertIs(claim_holds(game, claim, paper), expected, (claim, paper))


class ToldByHand(unittest.TestCase):
    def holds(self, game, claim, *papers):
        for paper in papers:
            self.assertIs(claim_holds(game, claim, paper), True, (claim, paper))

    def fails(self, game, claim, *papers):
        for paper in papers:
            self.assertIs(claim_holds(game, claim, paper), False, (claim, paper))

    def test_worth(self):
        votes = (1, 1, 1)
        self.holds(THIRD, ("worth", (1, 3)), (votes, votes), ((999999,) * 3, (7, 7, 7)))
        self.fails(THIRD, ("worth", (1, 3)), ((1, 1, 2), votes), (votes, (1, 1, 2)), (votes,), (votes, votes, votes),
                   [votes, votes], (list(votes), votes), (votes, [1, 1, 1]), votes, ((True, 1, 1), votes),
                   (votes, (1, 1, True)), ((1000000,) * 3, votes), (votes, (1000000,) * 3), ((0, 0, 0), votes), None)
        self.fails(THIRD, ("worth", (0, 1)), ((2, 1, 1), votes))
        self.fails(THIRD, ("worth", (1, 2)), (votes, (1, 1, 2)))

    def test_margin(self):
        self.holds(THIRD, ("margin", (1, 3)), (1, 1, 1), (5, 5, 5), (999999,) * 3)
        self.holds(THIRD, ("margin", (0, 1)), (1, 1, 1), (2, 1, 1), (1, 1, 0))
        self.fails(THIRD, ("margin", (1, 3)), (1, 1, 2), [1, 1, 1], (1, 1), (1, 1, True), (1,) * 4, (0, 0, 0), None)
        self.fails(THIRD, ("no margin", (1, 3)), (1, 1, 1), (5, 5, 5))
        self.holds(THIRD, ("no margin", (1, 2)), (1, 1, 1), (4, 5, 5))
        self.fails(THIRD, ("no margin", (1, 2)), (1, 1, 2), [1, 1, 1], (1, True, 1), (0, 0, 0), (1, 1), None)
        self.holds(HALF, ("no margin", (999999, 1)), (1, 0), (0, 1), (999999, 999999))

    def test_votes(self):
        self.holds(THIRD, ("votes", 3), (1, 1, 1))
        self.holds(THIRD, ("votes", 5), (1, 2, 2), (2, 1, 2), (2, 2, 1))
        self.fails(THIRD, ("votes", 3), (1, 2, 2), (2, 1, 0), (1, 1, True), [1, 1, 1], (1, 1), (1, 1, 1, 0), 3, None)
        self.fails(THIRD, ("votes", 5), (1, 1, 1), (3, 1, 1), (1, 1, 3))
        self.fails(THIRD, ("votes", 4), (2, 1, 1), (1, 1, 1), (1, 1, 2), (1, 2, 1))
        self.holds(ONE, ("votes", 24), (24,))

    def test_no_votes(self):
        self.holds(THIRD, ("no votes", 4), walls(THIRD, 4))
        self.fails(THIRD, ("no votes", 4), walls(THIRD, 2), bars(THIRD, 2), (), None, list(walls(THIRD, 4)))
        self.fails(THIRD, ("no votes", 3), walls(THIRD, 2), walls(THIRD, 4), walls(NOTHING, 3))
        self.holds(SILENT, ("no votes", 1), (((0,),), ((0,),)), (((0,),), ((-9,), (0,))))
        self.fails(SILENT, ("no votes", 1), (((0,),), ((1,),)), (((False,),), ((0,),)), (((0,),), [(0,)]))
        self.holds(CIRCLE, ("no votes", 24), walls(CIRCLE, 24))

    def test_fewest(self):
        told = bars(THIRD, 2)
        self.holds(THIRD, ("fewest", 3), ((1, 1, 1), told))
        self.fails(THIRD, ("fewest", 3), ((1, 1, 1), ()), ((1, 1, 1), bars(THIRD, 1)), ((1, 1, 1),), (1, 1, 1), told,
                   ((1, 2, 2), told), ((3, 0, 0), told), [(1, 1, 1), told], ((1, 1, 1), list(told)),
                   ((1, 1, 1), told, ()), (told, (1, 1, 1)), ((1, True, 1), told), ((1, 1, 1), None))
        # Walls for 4 tell nothing of 3.
        self.fails(THIRD, ("fewest", 5), ((1, 2, 2), walls(THIRD, 4)), ((1, 2, 2), ()), ((1, 2, 2), told))
        self.fails(THIRD, ("fewest", 64), ((21, 21, 22), told), ((1, 1, 1), told))
        self.fails(THIRD, ("never",), (1, 1, 1), ((1, 1, 1), told), (1, 0, 0))

    def test_fewest_one(self):
        self.holds(ONE, ("fewest", 1), ((1,), ()), ((1,), OwnTuple()))
        self.fails(ONE, ("fewest", 1), ((1,), []), ((1,), None), ((1,), False), ((1,), 0), ((1,), ((),)), ((1,),), (1,),
                   ((1,), (((0,),),)), ((True,), ()), ([1], ()), ((2,), ()), ((1,), (), ()), ((), (1,)), [(1,), ()])
        self.holds(ALL_RIGHT, ("fewest", 1), ((0, 0, 0, 1), ()), ((1, 0, 0, 0), ()))
        self.assertEqual(paper_of(ALL_RIGHT, ("fewest",)), ((0, 0, 0, 1), ()))
        self.fails(ONE, ("fewest", 2), ((2,), ()), ((2,), (((0,),), ((1,),))), ((2,), (((0,),), ((0,),))))

    def test_never(self):
        self.holds(NOTHING, ("never",), (1, 1), (3, 3), (999999, 999999))
        self.fails(NOTHING, ("never",), (1, 2), (1, 0), (0, 0), [1, 1], (1, True), (1,), (1, 1, 1), None, ((1, 1),))
        self.holds(Game(((-1, 0), (1, 1))), ("never",), (1, 0), (999999, 0))
        self.fails(Game(((-1, 0), (1, 1))), ("never",), (0, 1), (1, 1), (5, 1))
        self.fails(HALF, ("never",), (1, 1), (1, 0))

    def test_faults(self):
        claim = ("faults", (1, 1, 1, 1), 0, "lying", 1)
        self.holds(ALL_RIGHT, claim, (0, 1), (2, 3), (0, 3))
        self.fails(ALL_RIGHT, claim, (0,), (1, 0), (0, 0), (0, 1, 2), (0, 4), (-1, 0), (0, True), (False, 1), [0, 1], (),
                   None, 1, (0, 1, 1))
        self.fails(ALL_RIGHT, claim[:4] + (2,), (0, 1, 2), (0, 1))
        self.fails(ALL_RIGHT, claim[:4] + (3,), (0, 1, 2, 3), (0, 1))
        self.fails(ALL_RIGHT, claim[:4] + (0,), (0,), (0, 1), ())
        self.fails(ALL_RIGHT, claim[:4] + (999999999999,), (0, 1), ())
        self.holds(ALL_RIGHT, ("faults", (5, 1, 1, 1), 0, "lying", 0), (0,))
        self.fails(ALL_RIGHT, ("faults", (5, 1, 1, 1), 0, "lying", 0), (1,), (0, 1))
        self.holds(ALL_RIGHT, ("faults", (5, 1, 1, 1), 0, "silent", 3), (0, 1, 2, 3))
        self.fails(ALL_RIGHT, ("not right", (1, 1, 1, 1), 0, "lying"), 4, 0, (0, 1))

    def test_faults_of_votes_that_are_not_right(self):
        # All three lying would mend the votes, but they are not right to begin with.
        game = Game(((-1, -1, -1),))
        for kind in ("silent", "lying"):
            for many in range(4):
                self.fails(game, ("faults", (1, 1, 1), 0, kind, many), (), (0,), (0, 1), (1, 2), (0, 1, 2), -3)
            self.holds(game, ("not right", (1, 1, 1), 0, kind), -3)

    def test_not_right(self):
        for kind in ("silent", "lying"):
            claim = ("not right", (1, 2, 1), 0, kind)
            self.holds(THIRD, claim, 0)
            self.fails(THIRD, claim, False, 1, -1, None, "0", (0,), (), [0])
            self.holds(THIRD, ("not right", (1, 4, 1), 0, kind), -2)
            self.fails(THIRD, ("not right", (1, 4, 1), 0, kind), 0, 2, -1)
            self.fails(THIRD, ("not right", (1, 1, 1), 0, kind), 1, True, 0)
            self.holds(Game(((-1,),)), ("not right", (999999,), 0, kind), -999999)


class ChangedAtOnePlace(unittest.TestCase):
    def test_papers(self):
        for game in PAPERS_OF_EACH_KIND:
            questions = [q for q in all_questions(game) if q[0] != "votes" or q[1] in (1, 2, 3, 4)]
            for question in questions:
                claim = answer_of(game, question)
                for paper in altered(paper_of(game, question)):
                    expected = paper_by_words(game, claim, paper)
                    self.assertIs(claim_holds(game, claim, paper), expected, (game.rows, claim, paper))

    def test_claims(self):
        for game in PAPERS_OF_EACH_KIND:
            questions = [q for q in all_questions(game) if q[0] != "votes" or q[1] in (1, 2, 3, 4)]
            for question in questions:
                claim, paper = answer_of(game, question), paper_of(game, question)
                for other in altered(claim):
                    expected = claim_by_words(game, other) and paper_by_words(game, other, paper)
                    self.assertIs(claim_holds(game, other, paper), expected, (game.rows, other, paper))

    def test_walls_cut_off_and_lengthened(self):
        for many in (1, 4, 24):
            claim, told = ("no votes", many), walls(CIRCLE, many)
            self.assertIs(claim_holds(CIRCLE, claim, told), True)
            for wrong in [told[:-1], told[1:], told + told, told + told[-1:], told[::-1], list(told), (told,),
                          put(told, (0,), list(told[0])), put(told, (many,), ()), put(told, (many, 0, 0), False)]:
                self.assertIs(claim_holds(CIRCLE, claim, wrong), False)


class AnyValue(unittest.TestCase):
    def test_claims_and_papers(self):
        for game in [ONE, THIRD, NOTHING]:
            for value in never_right():
                self.assertIs(claim_holds(game, value, value), False)
                self.assertIs(claim_holds(game, value, (1, 1, 1)), False)
                for question in all_questions(game)[::7]:
                    claim = answer_of(game, question)
                    expected = paper_by_words(game, claim, value)
                    self.assertIs(claim_holds(game, claim, value), expected, (game.rows, claim, value))

    def test_questions(self):
        for game in [ONE, THIRD, NOTHING]:
            wrong = [None, True, 0, "worth", ("margin",), ["worth"], ("votes", 25), ("votes", True), ("no votes", 4),
                     ("never",), ("worth", (1, 3)), ("faults", (1,) * 5, 0, "silent"), ("margin", (2, 4)), ((),)]
            for value in wrong + never_right():
                with self.assertRaises(InvalidQuestion) as caught:
                    paper_of(game, value)
                self.assertIs(type(caught.exception), InvalidQuestion)
                self.assertIs(caught.exception.value, value)

    def test_arguments_stay_as_they_are(self):
        claim, paper = ["margin", [1, 3]], [[1, 1], 1]
        self.assertIs(claim_holds(THIRD, claim, paper), False)
        self.assertIs(claim_holds(THIRD, ("margin", (1, 3)), paper), False)
        self.assertEqual((claim, paper), (["margin", [1, 3]], [[1, 1], 1]))


class FormOfTheResults(unittest.TestCase):
    def plain(self, value):
        if isinstance(value, tuple):
            self.assertIs(type(value), tuple)
            for member in value:
                self.plain(member)
        else:
            self.assertIs(type(value), int)

    def test_plain_tuples_of_integers(self):
        for game in PAPERS_OF_EACH_KIND:
            for question in all_questions(game):
                self.plain(paper_of(game, question))
        self.plain(paper_of(THIRD, OwnTuple(("faults", OwnTuple((2, 1, 2)), 0, "silent"))))

    def test_the_same_each_time_and_nothing_changes(self):
        for game in PAPERS_OF_EACH_KIND:
            before = dict(vars(game))
            for question in all_questions(game):
                self.assertEqual(paper_of(game, question), paper_of(Game(game.rows), question))
            self.assertEqual(vars(game), before)

    def test_by_name(self):
        self.assertEqual(paper_of(game=THIRD, question=("votes", 3)), (1, 1, 1))
        self.assertIs(claim_holds(paper=(1, 1, 1), claim=("votes", 3), game=THIRD), True)


if __name__ == "__main__":
    unittest.main()
