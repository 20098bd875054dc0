"""Questions and claims for tests, and by the document's words what questions, claims and papers are."""

from fractions import Fraction
from itertools import combinations

from tests.helpers import (
    around, by_the_words, edges_of, first_by_all, margins_of, pair_of, worth_by_steps,
)

KINDS = ("silent", "lying")


def is_number(value, low, high):
    return type(value) is int and low <= value <= high


def is_ratio(value):
    if not isinstance(value, tuple) or len(value) != 2 or not all(type(n) is int for n in value):
        return False
    top, bottom = value
    return abs(top) <= 999999 and 1 <= bottom <= 999999 and pair_of(Fraction(top, bottom)) == (top, bottom)


def are_counts(value, length):
    if not isinstance(value, tuple) or len(value) != length:
        return False
    return all(is_number(n, 0, 999999) for n in value) and any(value)


def is_fault(game, value):
    """Whether value is votes, an example and a kind."""
    votes, example, kind = value
    return are_counts(votes, game.rules) and is_number(example, 0, game.examples - 1) and kind in KINDS


def question_by_words(game, value):
    """Whether value is a question for the game."""
    if not isinstance(value, tuple) or not value:
        return False
    if value in [("worth",), ("fewest",)]:
        return True
    if len(value) == 2 and value[0] == "margin":
        return is_ratio(value[1])
    if len(value) == 2 and value[0] == "votes":
        return is_number(value[1], 1, 24)
    return len(value) == 4 and value[0] == "faults" and is_fault(game, value[1:])


def claim_by_words(game, value):
    """Whether value is a claim for the game."""
    if not isinstance(value, tuple) or not value:
        return False
    if value == ("never",):
        return True
    if len(value) == 2 and value[0] in ("worth", "margin", "no margin"):
        return is_ratio(value[1])
    if len(value) == 2 and value[0] in ("votes", "no votes"):
        return is_number(value[1], 1, 24)
    if len(value) == 2 and value[0] == "fewest":
        return is_number(value[1], 1, 64)
    if len(value) == 5 and value[0] == "faults":
        return is_fault(game, value[1:4]) and is_number(value[4], 0, 10 ** 12)
    return len(value) == 4 and value[0] == "not right" and is_fault(game, value[1:])


def some_ratios(game):
    """Ratios far from the worth, close to it, and the worth itself."""
    told = [(-999999, 1), (999999, 1), (-1, 1), (0, 1), (1, 1), (1, 2), (-1, 3), (999998, 999999)]
    return sorted({*told, *around(pair_of(worth_by_steps(game.rows)))})


def some_votes(game):
    """Votes of several kinds."""
    told = [(1,) * game.rules, (999999,) * game.rules, (3, 2, 1, 2)[:game.rules], (0, 1, 2, 4)[-game.rules:]]
    return sorted({*told, *(tuple(5 * (rule == k) for rule in range(game.rules)) for k in range(game.rules))})


def all_questions(game):
    """Questions of each kind: all those with a number, and some of the others."""
    told = [("worth",), ("fewest",)]
    told += [("margin", ratio) for ratio in some_ratios(game)]
    told += [("votes", many) for many in range(1, 25)]
    told += [
        ("faults", votes, example, kind)
        for votes in some_votes(game) for example in range(game.examples) for kind in KINDS
    ]
    return told


def claims_for(game, question):
    """Claims that may answer the question, of those with a ratio or any number only some."""
    word = question[0]
    if word == "worth":
        return [("worth", ratio) for ratio in some_ratios(game)]
    if word in ("margin", "votes"):
        return [question, ("no " + word, question[1])]
    if word == "fewest":
        return [("never",)] + [("fewest", many) for many in range(1, 65)]
    numbers = [0, 1, 2, 3, 4, 5, 999999999999]
    return [("not right",) + question[1:]] + [question + (many,) for many in numbers]


def gain_with(game, votes, example, kind, rules):
    """The gain if these rules have the fault."""
    change = {"silent": 0, "lying": -1}[kind]
    return sum(
        number * (change * sign if rule in rules else sign)
        for rule, (number, sign) in enumerate(zip(votes, game.rows[example]))
    )


def withstands_by_words(game, votes, example, kind):
    """The greatest number such that no so many rules break the votes; None if they are not right."""
    if gain_with(game, votes, example, kind, ()) <= 0:
        return None
    return max(
        many for many in range(game.rules)
        if all(gain_with(game, votes, example, kind, rules) > 0 for rules in combinations(range(game.rules), many))
    )


def least_by_words(game):
    """The least sum of votes that are right on all examples; None if there are none. It goes no further than 27."""
    if worth_by_steps(game.rows) <= 0:
        return None
    return next(many for many in range(1, 28) if first_by_all(game, many))


def answer_by_words(game, question):
    """The true claim."""
    word = question[0]
    if word == "worth":
        return ("worth", pair_of(worth_by_steps(game.rows)))
    if word == "margin":
        return question if worth_by_steps(game.rows) >= Fraction(*question[1]) else ("no margin", question[1])
    if word == "votes":
        return question if first_by_all(game, question[1]) else ("no votes", question[1])
    if word == "fewest":
        many = least_by_words(game)
        return ("never",) if many is None else ("fewest", many)
    many = withstands_by_words(game, *question[1:])
    return ("not right",) + question[1:] if many is None else question + (many,)


def paper_by_words(game, claim, paper):
    """Whether paper is a paper for claim, which is a claim for the game."""
    word = claim[0]
    if word == "worth":
        if not isinstance(paper, tuple) or len(paper) != 2:
            return False
        votes, weights = paper
        if not are_counts(votes, game.rules) or not are_counts(weights, game.examples):
            return False
        return min(margins_of(game, votes)) == max(edges_of(game, weights)) == Fraction(*claim[1])
    if word == "margin":
        return are_counts(paper, game.rules) and min(margins_of(game, paper)) >= Fraction(*claim[1])
    if word == "no margin":
        return are_counts(paper, game.examples) and max(edges_of(game, paper)) < Fraction(*claim[1])
    if word == "votes":
        return are_right(game, claim[1], paper)
    if word == "no votes":
        return by_the_words(game, claim[1], paper, claim[1])
    if word == "fewest":
        if not isinstance(paper, tuple) or len(paper) != 2 or not are_right(game, claim[1], paper[0]):
            return False
        return paper[1] == () if claim[1] == 1 else by_the_words(game, claim[1] - 1, paper[1], 1)
    if word == "never":
        return are_counts(paper, game.examples) and max(edges_of(game, paper)) <= 0
    votes, example, kind = claim[1:4]
    if word == "not right":
        return type(paper) is int and paper < 1 and paper == gain_with(game, votes, example, kind, ())
    if not isinstance(paper, tuple) or not all(is_number(rule, 0, game.rules - 1) for rule in paper):
        return False
    if len(paper) != claim[4] + 1 or tuple(sorted(set(paper))) != paper:
        return False
    if withstands_by_words(game, votes, example, kind) != claim[4]:
        return False
    return gain_with(game, votes, example, kind, paper) <= 0


def are_right(game, many, votes):
    """Whether votes are votes of this sum that are right on all examples."""
    return are_counts(votes, game.rules) and sum(votes) == many and min(margins_of(game, votes)) > 0
