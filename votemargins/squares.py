"""Votes and weights that meet, found in a square part of the rows: the way that point [7] tells."""

from itertools import combinations
from math import gcd

from votemargins.margins import greatest_edge, least_margin


def meeting(game):
    """Votes and weights, the least margin of the ones the greatest edge of the others."""
    # The loop always returns: by the theorem of Shapley and Snow some part has such votes and weights.
    for examples, rules in square_parts(game):
        square = [[game.rows[example][rule] for rule in rules] for example in examples]
        votes = level_counts(square)
        weights = level_counts([list(column) for column in zip(*square)])
        if votes and weights:
            votes = spread(votes, rules, game.rules)
            weights = spread(weights, examples, game.examples)
            if least_margin(game, votes) == greatest_edge(game, weights):
                return (votes, weights)


def square_parts(game):
    """The examples and the rules of each square part of the rows, small parts first."""
    found = []
    for many in range(1, min(game.examples, game.rules) + 1):
        choices = list(combinations(range(game.rules), many))
        for examples in combinations(range(game.examples), many):
            found.extend([(examples, rules) for rules in choices])
    return found


def level_counts(square):
    """Numbers for the columns, none negative, that give all rows equal sums; [] if there is not just one way."""
    # By Cramer's rule: these determinants give each row the square's own one, also if that is 0.
    numbers = [determinant(with_ones(square, column)) for column in range(len(square))]
    total = sum(numbers)
    if total < 0:
        numbers = [-number for number in numbers]
    if total == 0 or min(numbers) < 0:
        return []
    common = 0
    for number in numbers:
        common = gcd(common, number)
    return [number // common for number in numbers]


def with_ones(square, column):
    """The square with ones for this column."""
    return [row[:column] + [1] + row[column + 1:] for row in square]


def determinant(square):
    """The determinant of a list of rows, as many and as long."""
    if not square:
        return 1
    total = 0
    sign = 1
    for column, number in enumerate(square[0]):
        if number:
            total += sign * number * determinant([row[:column] + row[column + 1:] for row in square[1:]])
        sign = -sign
    return total


def spread(numbers, places, length):
    """The numbers at their places in a tuple of this length, 0 at the others."""
    found = [0] * length
    for place, number in zip(places, numbers):
        found[place] = number
    return tuple(found)
