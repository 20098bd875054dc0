"""The worth of a game, and the votes and weights that have it: point [7]."""

from votemargins.margins import least_margin
from votemargins.squares import meeting


def worth(game):
    """The greatest least margin of all votes, which is the least greatest edge of all weights."""
    return least_margin(game, best_votes(game))


def best_votes(game):
    """Some votes whose least margin is the worth."""
    votes, _ = meeting(game)
    return votes


def hard_weights(game):
    """Some weights whose greatest edge is the worth."""
    _, weights = meeting(game)
    return weights
