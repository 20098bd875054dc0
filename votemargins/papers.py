"""Papers, from which it is seen that a claim is true: point [16]."""

from votemargins.bounds import votes_for, votes_hold, weights_against, weights_hold
from votemargins.claims import answer_of, is_claim
from votemargins.faults import are_right_on, breakers, do_break, withstands
from votemargins.few import few_votes, votes_of
from votemargins.margins import are_votes, are_weights, gains, greatest_edge, least_margin
from votemargins.values import is_between, is_integer
from votemargins.walls import bars, bars_hold, walls, walls_hold
from votemargins.worths import best_votes, hard_weights


def paper_of(game, question):
    """Some paper for the answer to the question."""
    claim = answer_of(game, question)
    make = MAKERS[claim[0]]
    return make(game, claim)


def claim_holds(game, claim, paper):
    """Tell whether claim is a claim for the game and paper a paper for it; both may be anything."""
    if not is_claim(game, claim):
        return False
    holds = HOLDERS[claim[0]]
    return holds(game, claim, paper)


def make_worth(game, claim):
    """Votes and weights that have the worth."""
    return (best_votes(game), hard_weights(game))


def make_margin(game, claim):
    """Votes with at least this least margin."""
    return votes_for(game, claim[1])


def make_no_margin(game, claim):
    """Weights with a greatest edge less than it."""
    return weights_against(game, claim[1])


def make_votes(game, claim):
    """Votes of this sum that are right on all examples."""
    return votes_of(game, claim[1])


def make_no_votes(game, claim):
    """Walls for this sum."""
    return walls(game, claim[1])


def make_fewest(game, claim):
    """Votes of this sum that are right on all examples, and bars for all smaller ones."""
    less = claim[1] - 1
    return (few_votes(game), bars(game, less) if less > 0 else ())


def make_never(game, claim):
    """Weights whose greatest edge is at most 0."""
    return hard_weights(game)


def make_faults(game, claim):
    """Rules that have the votes no longer right."""
    votes, example, kind = claim[1:4]
    return breakers(game, votes, example, kind)


def make_not_right(game, claim):
    """The gain of the example."""
    votes, example = claim[1:3]
    return gains(game, votes)[example]


def worth_holds(game, claim, paper):
    """Tell whether paper is votes and weights that both have this ratio."""
    if not is_pair(paper):
        return False
    votes, weights = paper
    if not are_votes(game, votes) or not are_weights(game, weights):
        return False
    return least_margin(game, votes) == claim[1] and greatest_edge(game, weights) == claim[1]


def margin_holds(game, claim, paper):
    """Tell whether paper is votes with at least this least margin."""
    return votes_hold(game, claim[1], paper)


def no_margin_holds(game, claim, paper):
    """Tell whether paper is weights with a greatest edge less than the ratio."""
    return weights_hold(game, claim[1], paper)


def right_votes_hold(game, claim, paper):
    """Tell whether paper is votes of this sum that are right on all examples."""
    return are_votes(game, paper) and sum(paper) == claim[1] and min(gains(game, paper)) > 0


def no_votes_hold(game, claim, paper):
    """Tell whether paper is walls for this sum."""
    return walls_hold(game, claim[1], paper)


def fewest_holds(game, claim, paper):
    """Tell whether paper is right votes of this sum, and bars for all smaller ones."""
    if not is_pair(paper) or not right_votes_hold(game, claim, paper[0]):
        return False
    less = claim[1] - 1
    return bars_hold(game, less, paper[1]) if less > 0 else paper[1] == ()


def never_holds(game, claim, paper):
    """Tell whether paper is weights whose greatest edge is at most 0."""
    return are_weights(game, paper) and greatest_edge(game, paper)[0] <= 0


def faults_hold(game, claim, paper):
    """Tell whether paper is rules, one more than are withstood, that have the votes no longer right."""
    votes, example, kind, many = claim[1:]
    if not are_some_rules(game, paper) or len(paper) != many + 1 or not are_right_on(game, votes, example):
        return False
    return withstands(game, votes, example, kind) == many and do_break(game, votes, example, kind, paper)


def not_right_holds(game, claim, paper):
    """Tell whether paper is the gain of the example, and less than 1."""
    votes, example = claim[1:3]
    return is_integer(paper) and paper < 1 and paper == gains(game, votes)[example]


def is_pair(value):
    """Tell whether value is a tuple of two."""
    return isinstance(value, tuple) and len(value) == 2


def are_some_rules(game, value):
    """Tell whether value is an ascending tuple of rules."""
    if not isinstance(value, tuple) or not all([is_between(rule, 0, game.rules - 1) for rule in value]):
        return False
    return all([rule < other for rule, other in zip(value, value[1:])])


MAKERS = {
    "worth": make_worth,
    "margin": make_margin,
    "no margin": make_no_margin,
    "votes": make_votes,
    "no votes": make_no_votes,
    "fewest": make_fewest,
    "never": make_never,
    "faults": make_faults,
    "not right": make_not_right,
}
HOLDERS = {
    "worth": worth_holds,
    "margin": margin_holds,
    "no margin": no_margin_holds,
    "votes": right_votes_hold,
    "no votes": no_votes_hold,
    "fewest": fewest_holds,
    "never": never_holds,
    "faults": faults_hold,
    "not right": not_right_holds,
}
