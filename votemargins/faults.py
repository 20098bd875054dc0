"""How many rules may fall silent, or lie, while votes stay right on an example: point [14]."""

from itertools import combinations

from votemargins.errors import InvalidKind, InvalidNumber, InvalidVotes, Undefined
from votemargins.margins import are_votes, gains
from votemargins.values import is_between

# How often the gain loses what a rule adds to it if the rule has the fault.
KINDS = {"silent": 1, "lying": 2}


def withstands(game, votes, example, kind):
    """The greatest number such that the votes stay right on the example, whichever so many rules have the fault."""
    check(game, votes, example, kind)
    # Once so many rules can break the votes, each greater number of rules can, too: of the others, the one that adds
    # most goes with them, and if it adds less than nothing, what is left on the example is not above 0 anyway.
    many = 0
    while not first_breakers(game, votes, example, kind, many + 1):
        many += 1
    return many


def breakers(game, votes, example, kind):
    """The first rules, one more than withstands tells, that have the votes no longer right if they have the fault."""
    many = withstands(game, votes, example, kind)
    return first_breakers(game, votes, example, kind, many + 1)


def check(game, votes, example, kind):
    """Raise the error for the first argument that is not what it should be, and that for votes that are not right."""
    if not are_votes(game, votes):
        raise InvalidVotes(votes)
    if not is_example(game, example):
        raise InvalidNumber(example)
    if not is_kind(kind):
        raise InvalidKind(kind)
    if not are_right_on(game, votes, example):
        raise Undefined("right")


def is_example(game, value):
    """Tell whether value is an example of the game."""
    return is_between(value, 0, game.examples - 1)


def is_kind(value):
    """Tell whether value is a kind of fault."""
    return isinstance(value, str) and value in KINDS


def are_right_on(game, votes, example):
    """Tell whether the votes are right on the example."""
    return gains(game, votes)[example] > 0


def first_breakers(game, votes, example, kind, many):
    """The first so many rules that break the votes; () if none do."""
    for rules in combinations(range(game.rules), many):
        if do_break(game, votes, example, kind, rules):
            return rules
    return ()


def do_break(game, votes, example, kind, rules):
    """Tell whether the votes are not right on the example if these rules have the fault."""
    row = game.rows[example]
    lost = KINDS[kind] * sum([row[rule] * votes[rule] for rule in rules])
    return gains(game, votes)[example] - lost < 1
