"""The errors of the package: point [3]."""


class VoteError(ValueError):
    """What all errors of the package stand under; never raised itself."""


class InvalidNumber(VoteError):
    """An argument is not such a number as is asked for."""

    def __init__(self, value):
        self.value = value


class InvalidRows(VoteError):
    """An argument is not the rows of a game."""

    def __init__(self, value):
        self.value = value


class InvalidRow(VoteError):
    """An argument is not a row or column that fits the game."""

    def __init__(self, value):
        self.value = value


class InvalidVotes(VoteError):
    """An argument is not votes for the game."""

    def __init__(self, value):
        self.value = value


class InvalidWeights(VoteError):
    """An argument is not weights for the game."""

    def __init__(self, value):
        self.value = value


class InvalidRatio(VoteError):
    """An argument is not such a ratio as is asked for."""

    def __init__(self, value):
        self.value = value


class InvalidRules(VoteError):
    """An argument is not such rules as are asked for."""

    def __init__(self, value):
        self.value = value


class InvalidKind(VoteError):
    """An argument is not a kind of fault."""

    def __init__(self, value):
        self.value = value


class InvalidQuestion(VoteError):
    """An argument is not a question for the game."""

    def __init__(self, value):
        self.value = value


class InvalidClaim(VoteError):
    """An argument is not a claim for the game."""

    def __init__(self, value):
        self.value = value


class Undefined(VoteError):
    """What is asked for is not there; what is a word that tells it."""

    def __init__(self, what):
        self.what = what


class NothingToUndo(VoteError):
    """No deed is left for undo or redo; word tells for which."""

    def __init__(self, word):
        self.word = word
