"""Votes and weights, and what a game gives them: point [6]."""

from votemargins.errors import InvalidVotes, InvalidWeights
from votemargins.values import is_between, ratio_of

MOST = 999999


def are_votes(game, value):
    """Tell whether value, which may be anything, is votes for the game."""
    return are_counts(value, game.rules)


def are_weights(game, value):
    """Tell whether value, which may be anything, is weights for the game."""
    return are_counts(value, game.examples)


def gains(game, votes):
    """The gain of each example."""
    if not are_votes(game, votes):
        raise InvalidVotes(votes)
    return tuple([signed_sum(row, votes) for row in game.rows])


def least_margin(game, votes):
    """The least margin of all examples, a ratio."""
    return ratio_of(min(gains(game, votes)), sum(votes))


def greatest_edge(game, weights):
    """The greatest edge of all rules, a ratio."""
    if not are_weights(game, weights):
        raise InvalidWeights(weights)
    sums = [signed_sum(column, weights) for column in zip(*game.rows)]
    return ratio_of(max(sums), sum(weights))


def are_counts(value, many):
    """Tell whether value is so many numbers up to MOST, not all 0."""
    if not isinstance(value, tuple) or len(value) != many:
        return False
    return all([is_between(member, 0, MOST) for member in value]) and max(value) > 0


def signed_sum(signs, numbers):
    """The sum of the numbers, each times its sign."""
    return sum([sign * number for sign, number in zip(signs, numbers)])
