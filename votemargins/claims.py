"""Questions, and the claims that may answer them: point [15]."""

from votemargins.errors import InvalidClaim, InvalidQuestion
from votemargins.faults import are_right_on, is_example, is_kind, withstands
from votemargins.few import MOST, MOST_FEWEST, first_right, least_sum
from votemargins.margins import are_votes
from votemargins.values import is_between, is_integer, is_less, is_ratio, plain
from votemargins.worths import worth

# What follows the first word.
QUESTIONS = {
    "worth": (),
    "margin": ("ratio",),
    "votes": ("sum",),
    "fewest": (),
    "faults": ("votes", "example", "kind"),
}
CLAIMS = {
    "worth": ("ratio",),
    "margin": ("ratio",),
    "no margin": ("ratio",),
    "votes": ("sum",),
    "no votes": ("sum",),
    "fewest": ("least sum",),
    "never": (),
    "faults": ("votes", "example", "kind", "number"),
    "not right": ("votes", "example", "kind"),
}

# The other claims begin with the word of their question.
QUESTION_WORDS = {"no margin": "margin", "no votes": "votes", "never": "fewest", "not right": "faults"}


def is_question(game, value):
    """Tell whether value, which may be anything, is a question for the game."""
    word = first_word(value)
    return word in QUESTIONS and are_parts(game, QUESTIONS[word], value[1:])


def is_claim(game, value):
    """Tell whether value, which may be anything, is a claim for the game."""
    word = first_word(value)
    return word in CLAIMS and are_parts(game, CLAIMS[word], value[1:])


def answer_of(game, question):
    """The true one of the claims that may answer the question."""
    if not is_question(game, question):
        raise InvalidQuestion(question)
    answer = ANSWERS[question[0]]
    return answer(game, plain(question))


def question_of(game, claim):
    """The question that the claim may answer."""
    if not is_claim(game, claim):
        raise InvalidClaim(claim)
    word = QUESTION_WORDS.get(claim[0], claim[0])
    return plain((word,) + claim[1:len(QUESTIONS[word]) + 1])


def first_word(value):
    """The word with which value begins; "" if it is no tuple that begins with a word."""
    if isinstance(value, tuple) and len(value) > 0 and isinstance(value[0], str):
        return value[0]
    return ""


def are_parts(game, names, values):
    """Tell whether these are values for the parts with these names."""
    return len(values) == len(names) and all([is_part(game, name, value) for name, value in zip(names, values)])


def is_part(game, name, value):
    """Tell whether value may stand for the part with this name."""
    if name == "ratio":
        return is_ratio(value)
    if name == "sum":
        return is_between(value, 1, MOST)
    if name == "least sum":
        return is_between(value, 1, MOST_FEWEST)
    if name == "votes":
        return are_votes(game, value)
    if name == "example":
        return is_example(game, value)
    if name == "kind":
        return is_kind(value)
    return is_integer(value) and value >= 0


def answer_worth(game, question):
    """The claim that tells the worth."""
    return question + (worth(game),)


def answer_margin(game, question):
    """The claim that tells whether some votes have at least this least margin."""
    word = "no margin" if is_less(worth(game), question[1]) else "margin"
    return (word, question[1])


def answer_votes(game, question):
    """The claim that tells whether some votes of this sum are right on all examples."""
    word = "votes" if first_right(game, question[1]) else "no votes"
    return (word, question[1])


def answer_fewest(game, question):
    """The claim that tells the least sum of votes that are right on all examples."""
    many = least_sum(game)
    return question + (many,) if many > 0 else ("never",)


def answer_faults(game, question):
    """The claim that tells how many faults the votes withstand on the example."""
    votes, example, kind = question[1:]
    if not are_right_on(game, votes, example):
        return ("not right", votes, example, kind)
    return question + (withstands(game, votes, example, kind),)


ANSWERS = {
    "worth": answer_worth,
    "margin": answer_margin,
    "votes": answer_votes,
    "fewest": answer_fewest,
    "faults": answer_faults,
}
