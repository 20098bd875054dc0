"""The greatest worth with some examples left out, or with few rules: point [9]."""

from itertools import combinations

from votemargins.errors import InvalidNumber
from votemargins.games import Game
from votemargins.values import is_between, is_less
from votemargins.worths import worth


def without(game, r):
    """The greatest worth of all but r of the examples, and the first r examples that leave it."""
    if not is_between(r, 0, game.examples - 1):
        raise InvalidNumber(r)
    choices = list(combinations(range(game.examples), r))
    return first_greatest([(worth(leave_out_examples(game, left)), left) for left in choices])


def with_few(game, k):
    """The greatest worth with k of the rules, and the first k rules that have it."""
    if not is_between(k, 1, game.rules):
        raise InvalidNumber(k)
    choices = list(combinations(range(game.rules), k))
    return first_greatest([(worth(take_rules(game, taken)), taken) for taken in choices])


def leave_out_examples(game, left):
    """The game without these examples."""
    return Game(tuple([row for example, row in enumerate(game.rows) if example not in left]))


def take_rules(game, taken):
    """The game with these rules alone."""
    return Game(tuple([tuple([row[rule] for rule in taken]) for row in game.rows]))


def first_greatest(pairs):
    """The first of the pairs, which begin with a ratio, whose ratio is the greatest."""
    best = pairs[0]
    for pair in pairs[1:]:
        if is_less(best[0], pair[0]):
            best = pair
    return best
