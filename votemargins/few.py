"""The fewest votes that are right on all examples, and votes of a told sum: points [10] and [11]."""

from votemargins.errors import InvalidNumber, Undefined
from votemargins.values import is_between
from votemargins.worths import worth

# The greatest sum that votes_of takes, and the one that no least sum is above.
MOST = 24
MOST_FEWEST = 64


def fewest(game):
    """The least sum of votes that are right on all examples."""
    many = least_sum(game)
    if many == 0:
        raise Undefined("right")
    return many


def few_votes(game):
    """The first votes of the least sum that are right on all examples."""
    return first_right(game, fewest(game))


def votes_of(game, many):
    """The first votes of sum many that are right on all examples."""
    if not is_between(many, 1, MOST):
        raise InvalidNumber(many)
    votes = first_right(game, many)
    if not votes:
        raise Undefined("right")
    return votes


def least_sum(game):
    """The least sum of votes that are right on all examples; 0 if there are none."""
    top, bottom = worth(game)
    if top <= 0:
        return 0
    # Votes of a smaller sum would have a least margin above the worth if each gain were 1 or more.
    many = (bottom + top - 1) // top
    while not first_right(game, many):
        many += 1
    return many


def first_right(game, many):
    """The first votes of sum many that are right on all examples; () if there are none."""
    return first_numbers(list(zip(*game.rows)), [0] * game.examples, many)


def first_numbers(columns, gains, left):
    """The first numbers of sum left, one for each column, that bring all gains above 0; () if there are none."""
    if len(columns) == 1:
        return (left,) if min(moved(gains, columns[0], left)) > 0 else ()
    others = columns[1:]
    highest = [max(signs) for signs in zip(*others)]
    for number in range(left + 1):
        reached = moved(gains, columns[0], number)
        if min(moved(reached, highest, left - number)) > 0:
            found = first_numbers(others, reached, left - number)
            if found:
                return (number,) + found
    return ()


def moved(gains, signs, number):
    """The gains behind so many votes more for a rule with these signs."""
    return [gain + number * sign for gain, sign in zip(gains, signs)]
