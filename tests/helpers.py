"""What several tests use."""

from itertools import product

from votemargins import errors
from votemargins.games import Game

SIGNS = (-1, 0, 1)

ERRORS_OF_VALUE = (
    "InvalidNumber",
    "InvalidRows",
    "InvalidRow",
    "InvalidVotes",
    "InvalidWeights",
    "InvalidRatio",
    "InvalidRules",
    "InvalidKind",
    "InvalidQuestion",
    "InvalidClaim",
)


class OwnTuple(tuple):
    """A tuple of a class of its own."""


def nested(kind, depth):
    """Lists or tuples in one another."""
    value = kind()
    for _ in range(depth):
        value = kind([value])
    return value


def never_right():
    """Values that are neither rows of a game nor votes nor weights for any."""
    return [
        True, False, None, -1, 0, 1, 2, 999999, 1000000, 999999999999, -999999999999,
        "", "votes", "1", "x" * 4000,
        (), [], [1], [1, 1], [[1]], [(1,)],
        (None,), ("",), ("1",), (True,), (False,), (1, True), (True, 1), ([],), ((),), ([1],),
        ((True,),), ((False,),), ((1, True),), ((2,),), ((-2,),), (("1",),), ((None,),),
        (((1,),),), (([1],),), ((1,), [1]), ((1,), 1), (1, (1,)),
        (-1,), (1, -1), (1000000,), (1, 1000000), (0,), (0, 0), (0, 0, 0), (0, 0, 0, 0),
        (1,) * 5, (1,) * 30000, [1] * 30000, ((1,),) * 5, ((1,) * 5,), ((1,),) * 30000,
        nested(list, 60), nested(tuple, 60),
        Game(((1,),)), (Game(((1,),)),), ((Game(((1,),)),),),
        errors.InvalidRows(()), errors.Undefined("right"), (errors.Undefined("right"),),
    ]


def rows_of_size(examples, rules):
    """All rows of games of this size."""
    row_choices = list(product(SIGNS, repeat=rules))
    return product(row_choices, repeat=examples)


def small_games():
    """All games of up to two examples and up to two rules."""
    return [
        Game(rows)
        for examples in (1, 2)
        for rules in (1, 2)
        for rows in rows_of_size(examples, rules)
    ]


def counts(length, most):
    """All tuples of so many numbers up to most, not all 0."""
    return [told for told in product(range(most + 1), repeat=length) if any(told)]


def larger_games():
    """Some games of each size from 1 to 4 examples and rules, among them 4 by 4."""
    found = []
    step = 0
    for examples in range(1, 5):
        for rules in range(1, 5):
            for _ in range(4):
                rows = []
                for _ in range(examples):
                    row = []
                    for _ in range(rules):
                        # A fixed row of steps, so that each run sees the same games.
                        step = (step * 1103515245 + 12345) % 2 ** 31
                        row.append(step // 65536 % 3 - 1)
                    rows.append(tuple(row))
                found.append(Game(tuple(rows)))
    return found
