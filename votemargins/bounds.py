"""Votes that have at least a told margin, or weights against them: point [8]."""

from votemargins.errors import InvalidRatio, Undefined
from votemargins.margins import are_votes, are_weights, greatest_edge, least_margin
from votemargins.values import is_less, is_ratio
from votemargins.worths import best_votes, hard_weights


def votes_for(game, ratio):
    """Some votes whose least margin is at least the ratio."""
    if not is_ratio(ratio):
        raise InvalidRatio(ratio)
    votes = best_votes(game)
    if not votes_hold(game, ratio, votes):
        raise Undefined("votes")
    return votes


def weights_against(game, ratio):
    """Some weights whose greatest edge is less than the ratio."""
    if not is_ratio(ratio):
        raise InvalidRatio(ratio)
    weights = hard_weights(game)
    if not weights_hold(game, ratio, weights):
        raise Undefined("weights")
    return weights


def votes_hold(game, ratio, value):
    """Tell whether value is votes whose least margin is at least the ratio; both may be anything."""
    if not is_ratio(ratio) or not are_votes(game, value):
        return False
    return not is_less(least_margin(game, value), ratio)


def weights_hold(game, ratio, value):
    """Tell whether value is weights whose greatest edge is less than the ratio; both may be anything."""
    if not is_ratio(ratio) or not are_weights(game, value):
        return False
    return is_less(greatest_edge(game, value), ratio)
