"""Boosting, and the weights and the potential behind its rounds: points [12] and [13]."""

from votemargins.errors import InvalidNumber, InvalidRules
from votemargins.margins import signed_sum
from votemargins.values import is_between, ratio_of

MOST = 12

FACTORS = {1: 1, 0: 2, -1: 4}


def weights_after(game, rules):
    """The weights behind so many rounds with these rules."""
    if not are_rounds(game, rules):
        raise InvalidRules(rules)
    return tuple([weight_after(row, rules) for row in game.rows])


def potential(game, rules):
    """The sum of the weights behind these rounds, halved in each of them, a ratio."""
    return ratio_of(sum(weights_after(game, rules)), 1 << len(rules))


def boosted(game, many):
    """So many rules, each the first of those with the greatest edge behind the rules ahead of it."""
    if not is_between(many, 0, MOST):
        raise InvalidNumber(many)
    rules = ()
    for _ in range(many):
        rules = rules + (first_best(game, weights_after(game, rules)),)
    return rules


def are_rounds(game, value):
    """Tell whether value is a tuple of at most MOST rules."""
    if not isinstance(value, tuple) or len(value) > MOST:
        return False
    return all([is_between(rule, 0, game.rules - 1) for rule in value])


def weight_after(row, rules):
    """The weight of an example with this row behind rounds with these rules."""
    weight = 1
    for rule in rules:
        weight = weight * FACTORS[row[rule]]
    return weight


def first_best(game, weights):
    """The first of the rules with the greatest edge under the weights, which may be greater than those of [6]."""
    sums = [signed_sum(column, weights) for column in zip(*game.rows)]
    return sums.index(max(sums))
