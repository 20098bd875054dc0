"""Walls and bars, from which it is seen that no votes of some sums are right on all examples: point [11]."""

from itertools import combinations

from votemargins.errors import InvalidNumber, Undefined
from votemargins.few import MOST, MOST_FEWEST, first_right, least_sum
from votemargins.games import Game
from votemargins.layers import layers_hold, layers_of
from votemargins.values import is_between


def walls(game, many):
    """Some walls for many votes."""
    if not is_between(many, 1, MOST):
        raise InvalidNumber(many)
    if first_right(game, many):
        raise Undefined("walls")
    return layers_of(easiest(game, lambda other: not first_right(other, many)), many)


def walls_hold(game, many, value):
    """Tell whether value is walls for many votes; both may be anything."""
    return is_between(many, 1, MOST) and layers_hold(game, many, many, value)


def bars(game, many):
    """Some bars for many votes."""
    if not is_between(many, 1, MOST_FEWEST):
        raise InvalidNumber(many)
    if not needs_more(game, many):
        raise Undefined("bars")
    return layers_of(easiest(game, lambda other: needs_more(other, many)), many)


def bars_hold(game, many, value):
    """Tell whether value is bars for many votes; both may be anything."""
    return is_between(many, 1, MOST_FEWEST) and layers_hold(game, many, 1, value)


def needs_more(game, many):
    """Tell whether no votes of a sum up to many are right on all examples."""
    least = least_sum(game)
    return least == 0 or least > many


def easiest(game, fails):
    """The first game that fails too, of those with some examples made easy, as many of them as can be."""
    # What is seen of the game with easy examples is seen of the game itself, and it takes fewer sums.
    # The loop always returns: in the end no example is easy, and the game itself fails.
    for many in range(game.examples - 1, -1, -1):
        for easy in combinations(range(game.examples), many):
            other = with_easy(game, easy)
            if fails(other):
                return other


def with_easy(game, easy):
    """The game with each rule right on the easy examples."""
    return Game(tuple([(1,) * game.rules if example in easy else row for example, row in enumerate(game.rows)]))
