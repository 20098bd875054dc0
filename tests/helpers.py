"""What several tests use."""

from fractions import Fraction
from functools import cache
from itertools import product
from operator import mul

from votemargins import errors
from votemargins.games import Game

SIGNS = (-1, 0, 1)

ERRORS_OF_VALUE = (
    "InvalidNumber",
    "InvalidRows",
    "InvalidRow",
    "InvalidVotes",
    "InvalidWeights",
    "InvalidRatio",
    "InvalidRules",
    "InvalidKind",
    "InvalidQuestion",
    "InvalidClaim",
)


class OwnTuple(tuple):
    """A tuple of a class of its own."""


def nested(kind, depth):
    """Lists or tuples in one another."""
    value = kind()
    for _ in range(depth):
        value = kind([value])
    return value


def never_right():
    """Values that are neither rows of a game nor votes nor weights for any."""
    return [
        True, False, None, -1, 0, 1, 2, 999999, 1000000, 999999999999, -999999999999,
        "", "votes", "1", "x" * 4000,
        (), [], [1], [1, 1], [[1]], [(1,)],
        (None,), ("",), ("1",), (True,), (False,), (1, True), (True, 1), ([],), ((),), ([1],),
        ((True,),), ((False,),), ((1, True),), ((2,),), ((-2,),), (("1",),), ((None,),),
        (((1,),),), (([1],),), ((1,), [1]), ((1,), 1), (1, (1,)),
        (-1,), (1, -1), (1000000,), (1, 1000000), (0,), (0, 0), (0, 0, 0), (0, 0, 0, 0),
        (1,) * 5, (1,) * 30000, [1] * 30000, ((1,),) * 5, ((1,) * 5,), ((1,),) * 30000,
        nested(list, 60), nested(tuple, 60),
        Game(((1,),)), (Game(((1,),)),), ((Game(((1,),)),),),
        errors.InvalidRows(()), errors.Undefined("right"), (errors.Undefined("right"),),
    ]


def rows_of_size(examples, rules):
    """All rows of games of this size."""
    row_choices = list(product(SIGNS, repeat=rules))
    return product(row_choices, repeat=examples)


def small_games():
    """All games of up to two examples and up to two rules."""
    return [
        Game(rows)
        for examples in (1, 2)
        for rules in (1, 2)
        for rows in rows_of_size(examples, rules)
    ]


def counts(length, most):
    """All tuples of so many numbers up to most, not all 0."""
    return [told for told in product(range(most + 1), repeat=length) if any(told)]


def larger_games():
    """Some games of each size from 1 to 4 examples and rules, among them 4 by 4."""
    signs = fixed_signs()
    return [
        game
        for examples in range(1, 5)
        for rules in range(1, 5)
        for game in games_from(signs, examples, rules, 4)
    ]


def four_by_four_games(many):
    """So many games of 4 examples and 4 rules."""
    return games_from(fixed_signs(), 4, 4, many)


def games_from(signs, examples, rules, many):
    """So many games of this size, their signs taken one by one."""
    return [
        Game(tuple(tuple(next(signs) for _ in range(rules)) for _ in range(examples)))
        for _ in range(many)
    ]


def fixed_signs():
    """Signs without an end, so that each run sees the same games."""
    step = 0
    while True:
        step = (step * 1103515245 + 12345) % 2 ** 31
        yield step // 65536 % 3 - 1


def special_games():
    """Games that tests should not miss: silent rules only, rows alike, columns alike, each sign of a worth."""
    told = [
        ((0,),), ((1,),), ((-1,),),
        ((1, 0, -1, 0),), ((-1, -1, -1, -1),), ((0, 0, 0, 0),), ((-1, -1, 0, 0),),
        ((1,), (0,), (-1,), (0,)), ((1,), (1,), (1,), (1,)), ((0,), (0,), (0,), (0,)),
        ((0, 0), (0, 0)), ((0, 0, 0),) * 4, ((0,) * 4,) * 4, ((1,) * 4,) * 4, ((-1,) * 4,) * 4,
        ((1, -1, 0, 1),) * 4, ((-1, 0, -1),) * 3, ((1, 1, -1), (1, 1, -1), (-1, -1, 1)),
        ((1,) * 4, (-1,) * 4, (0,) * 4, (1,) * 4), ((1, 1, 0), (0, 0, 1), (-1, -1, 1)),
        ((0, 1, -1), (-1, 0, 1), (1, -1, 0)), ((1, -1), (-1, 1)), ((1, 0), (0, 1)),
        ((1, 0, 0, 0), (0, 1, 0, 0), (0, 0, 1, 0), (0, 0, 0, 1)),
        ((-1, 0, 0, 0), (0, -1, 0, 0), (0, 0, -1, 0), (0, 0, 0, -1)),
        ((1, 1, 1, 1), (1, -1, 1, -1), (1, 1, -1, -1), (1, -1, -1, 1)),
        ((-1, 1, 1, 1), (1, -1, 1, 1), (1, 1, -1, 1), (1, 1, 1, -1)),
        ((1, -1, -1, -1), (-1, 1, -1, -1), (-1, -1, 1, -1), (-1, -1, -1, 1)),
        ((1, -1, 0, 0), (-1, 1, 0, 0), (0, 0, 1, -1), (0, 0, -1, 1)),
        ((1, -1, 1, 0), (-1, 1, 1, 0), (0, 1, -1, 1), (1, 1, 0, -1)),
    ]
    return [Game(rows) for rows in told]


def wrong_numbers():
    """Values that are no number of examples, rules or votes for any game."""
    return [
        -1, -2, -999999999999, 999999999999, True, False, None, "", "0", "1", (), (0,), (1,), [], [0], [1],
        Game(((1,),)), errors.InvalidRows(()), (1,) * 30000, nested(list, 60), nested(tuple, 60),
    ]


# For each the least sum of votes that are right on all examples; 27 is the greatest of all games.
PATIENT = (
    (((-1, -1, 0, 1), (-1, 1, 1, -1), (1, 0, 1, -1), (1, 1, -1, 0)), 27),
    (((-1, 0, 1, 1), (0, 1, -1, -1), (1, -1, 0, 1), (1, -1, 1, -1)), 27),
    (((-1, 0, 0, 1), (0, -1, 1, -1), (1, -1, -1, 1), (1, 1, 0, -1)), 25),
    (((-1, 0, 0, 1), (0, 0, 1, -1), (1, -1, 0, 1), (1, 1, -1, -1)), 23),
)

# A game with worth 0, without which no example has it: its bars need many sums.
CIRCLE = Game(((1, -1, 0, 0), (0, 1, -1, 0), (0, 0, 1, -1), (-1, 0, 0, 1)))


@cache
def votes_of_sum(rules, many):
    """All votes of this sum, the first ones first."""
    if rules == 1:
        return [(many,)]
    return [(k,) + rest for k in range(many + 1) for rest in votes_of_sum(rules - 1, many - k)]


def first_by_all(game, many):
    """The first votes of this sum that are right on all examples, by going over all; None if there are none."""
    for votes in votes_of_sum(game.rules, many):
        if all(sum(map(mul, row, votes)) > 0 for row in game.rows):
            return votes
    return None


def is_tuple_of_integers(value):
    return isinstance(value, tuple) and all(isinstance(n, int) and not isinstance(n, bool) for n in value)


def at_least(one, other):
    return all(a >= b for a, b in zip(one, other))


def by_the_words(game, many, value, low):
    """Whether value is walls (low is many) or bars (low is 1), as the document tells it, one word behind the other."""
    if not isinstance(value, tuple) or len(value) != many + 1:
        return False
    for layer in value:
        if not isinstance(layer, tuple) or not all(is_tuple_of_integers(sums) for sums in layer):
            return False
        if any(len(sums) != game.examples for sums in layer):
            return False
        if any(not layer[k] < layer[k + 1] for k in range(len(layer) - 1)):
            return False
    if not any(all(number >= 0 for number in sums) for sums in value[0]):
        return False
    for t in range(many):
        for sums in value[t]:
            for column in zip(*game.rows):
                wanted = [number + sign for number, sign in zip(sums, column)]
                if not any(at_least(other, wanted) for other in value[t + 1]):
                    return False
    return all(any(number < 1 for number in sums) for t in range(low, many + 1) for sums in value[t])


def put(value, path, member):
    """The value with this member at the place that the path leads to."""
    if not path:
        return member
    at = path[0]
    return value[:at] + (put(value[at], path[1:], member),) + value[at + 1:]


def altered(value):
    """The value, a tuple of tuples, words and integers, changed at each of its places in many ways."""
    for path, member in places(value):
        for wrong in others_than(member):
            yield put(value, path, wrong)


def places(value):
    """Each place in the value, as the path that leads to it, and what stands there."""
    yield (), value
    if isinstance(value, tuple):
        for at, member in enumerate(value):
            for path, inner in places(member):
                yield (at,) + path, inner


def others_than(member):
    """What may stand in the place of a member."""
    told = [None, True, False, 0, 1, -1, 2, 999999, 999999999999, "", "worth", (), [], (0, 1), (member,), [member]]
    if isinstance(member, tuple):
        told += [list(member), member[:-1], member[1:], member[::-1], member + member, member + (0,), member + (1,),
                 (0,) + member, OwnTuple(member)]
    elif isinstance(member, str):
        told += [member + " ", member.upper(), member[:-1], "silent", "lying", "margin", "no votes"]
    else:
        told += [member + 1, member - 1, -member, str(member)]
    return told


def margins_of(game, votes):
    """The margins, worked out by fractions."""
    return [
        sum(Fraction(game.rows[k][i] * votes[i], sum(votes)) for i in range(game.rules))
        for k in range(game.examples)
    ]


def edges_of(game, weights):
    """The edges, worked out by fractions."""
    return [
        sum(Fraction(game.rows[k][i] * weights[k], sum(weights)) for k in range(game.examples))
        for i in range(game.rules)
    ]


def pair_of(fraction):
    return (fraction.numerator, fraction.denominator)


def around(ratio):
    """The ratio, and one closely below and one closely above it."""
    told = Fraction(*ratio)
    close = Fraction(1, 999998 // told.denominator * told.denominator)
    return pair_of(told - close), ratio, pair_of(told + close)


def worth_by_steps(rows):
    """The worth, a fraction, by the simplex method with Bland's rule: not the package's way."""
    many, rules = len(rows), len(rows[0])
    # Signs put up by 2 are above 0, and the worth is put up by 2 with them.
    table = [
        [Fraction(row[rule] + 2) for row in rows] + [Fraction(rule == k) for k in range(rules)] + [Fraction(1)]
        for rule in range(rules)
    ]
    goal = [Fraction(1)] * many + [Fraction(0)] * (rules + 1)
    basis = list(range(many, many + rules))
    while max(goal[:-1]) > 0:
        at = [number > 0 for number in goal[:-1]].index(True)
        _, _, k = min((row[-1] / row[at], basis[k], k) for k, row in enumerate(table) if row[at] > 0)
        basis[k] = at
        table[k] = pivot = [number / table[k][at] for number in table[k]]
        for other, row in enumerate(table):
            if other != k:
                table[other] = [number - row[at] * told for number, told in zip(row, pivot)]
        goal = [number - goal[at] * told for number, told in zip(goal, pivot)]
    return 1 / -goal[-1] - 2


def not_ratios():
    """Values that are no ratio of integers from -999999 to 999999."""
    return [
        (1, 0), (0, 0), (-1, 0), (2, 4), (0, 2), (0, 999999), (3, 3), (-2, 4), (-3, 3), (999999, 999999),
        (1, -2), (-1, -2), (0, -1), (1, -1), (-1, -1), (999999, 3), (999998, 2), (2, 999998),
        (1,), (1, 2, 3), (0, 1, 1), (), [1, 2], [0, 1], [], ((1, 2),), ((1, 2), 3), (1, (2,)), ((1,), 2),
        (True, 2), (1, True), (False, 1), (True, True), (0, True), (None, 1), (1, None), (None, None),
        ("1", 2), (1, "2"), ("1", "2"), "12", "1/2", "", None, True, False, 0, 1, -1, 999999999999,
        (1000000, 1), (1, 1000000), (-1000000, 1), (-1, 1000000), (1000000, 1000000), (1000000, 999999),
        (999999, 1000000), (999999999999, 1), (1, 999999999999), (-999999999999, 1), (1, -999999),
        ([1], 2), (1, [2]), (Game(((1,),)), 1), (1, Game(((1,),))), Game(((1,),)),
        errors.InvalidRatio((1, 2)), errors.Undefined("votes"), ((1, 2), (1, 2)),
        (1,) * 30000, [1] * 30000, "x" * 4000, nested(list, 60), nested(tuple, 60), (nested(tuple, 59), 1),
    ]
