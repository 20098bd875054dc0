"""Games: point [5]."""

from votemargins.errors import InvalidRows
from votemargins.values import is_between

MOST = 4


class Game:
    """What each rule is on each example: right, silent or wrong."""

    def __init__(self, rows):
        if not are_rows(rows):
            raise InvalidRows(rows)
        # Built anew, for a caller's tuples may be of a class of their own.
        self.rows = tuple([tuple(row) for row in rows])
        self.examples = len(rows)
        self.rules = len(rows[0])

    def __eq__(self, other):
        return isinstance(other, Game) and self.rows == other.rows


def are_rows(value):
    """Tell whether value is the rows of a game."""
    if not isinstance(value, tuple) or not 1 <= len(value) <= MOST:
        return False
    if not all([is_row(row) for row in value]):
        return False
    return all([len(row) == len(value[0]) for row in value])


def is_row(value):
    """Tell whether value may be a row of some game."""
    if not isinstance(value, tuple) or not 1 <= len(value) <= MOST:
        return False
    return all([is_sign(member) for member in value])


def is_sign(value):
    """Tell whether value is a sign."""
    return is_between(value, -1, 1)
