"""The desk, on which a game is edited and the claims of watched questions are kept: points [17] and [18]."""

from votemargins.claims import answer_of, is_question
from votemargins.errors import InvalidNumber, InvalidQuestion, InvalidRow, NothingToUndo, Undefined
from votemargins.faults import is_example
from votemargins.games import MOST, Game, is_row, is_sign
from votemargins.papers import claim_holds, paper_of
from votemargins.values import has_bool, is_between, plain


class Desk:
    """A game that is edited, and watched questions with the claims and papers that are kept for them."""

    def __init__(self, game):
        self.game = game
        self.watched = ()
        self.many = 0
        # For each watched question the pair of its claim and paper, and the word that report tells.
        self._kept = ()
        self._words = ()
        # Pairs of a game and watched questions: ahead of each deed that can be undone, behind each that can be redone.
        self._past = ()
        self._future = ()

    def show(self, row):
        """Put one example more, with this row, behind the others."""
        if not is_row(row) or len(row) != self.game.rules or self.game.examples == MOST:
            raise InvalidRow(row)
        self._edit(self.game.rows + (row,))

    def hide(self, example):
        """Take the example out."""
        if not is_example(self.game, example):
            raise InvalidNumber(example)
        if self.game.examples == 1:
            raise Undefined("alone")
        self._edit(left_out(self.game.rows, example))

    def hire(self, column):
        """Put one rule more, with this column, behind the others."""
        if not is_row(column) or len(column) != self.game.examples or self.game.rules == MOST:
            raise InvalidRow(column)
        self._edit(tuple([row + (sign,) for row, sign in zip(self.game.rows, column)]))

    def dismiss(self, rule):
        """Take the rule out."""
        if not is_rule(self.game, rule):
            raise InvalidNumber(rule)
        if self.game.rules == 1:
            raise Undefined("alone")
        self._edit(tuple([left_out(row, rule) for row in self.game.rows]))

    def turn(self, example, rule, sign):
        """Give the rule this sign on the example."""
        if not is_example(self.game, example):
            raise InvalidNumber(example)
        if not is_rule(self.game, rule):
            raise InvalidNumber(rule)
        if not is_sign(sign):
            raise InvalidNumber(sign)
        rows = self.game.rows
        self._edit(replaced(rows, example, replaced(rows[example], rule, sign)))

    def watch(self, question):
        """Watch the question from now on."""
        if not is_question(self.game, question):
            raise InvalidQuestion(question)
        if place_of(self.watched, question) < 0:
            self._do(self.game, self.watched + (plain(question),))
        else:
            self._do(self.game, self.watched)

    def leave(self, question):
        """Watch the question no longer."""
        self._do(self.game, left_out(self.watched, self._place(question)))

    def undo(self):
        """Bring back the game and the watched questions from ahead of the last deed that is not undone."""
        if not self._past:
            raise NothingToUndo("undo")
        game, watched = self._past[-1]
        self._become(game, watched, self._past[:-1], self._future + ((self.game, self.watched),))

    def redo(self):
        """Do the last undone deed again."""
        if not self._future:
            raise NothingToUndo("redo")
        game, watched = self._future[-1]
        self._become(game, watched, self._past + ((self.game, self.watched),), self._future[:-1])

    def claim(self, question):
        """The claim that is kept for a watched question; None if it is no question for the game."""
        return self._kept[self._place(question)][0]

    def paper(self, question):
        """The paper that is kept for a watched question; None if it is no question for the game."""
        return self._kept[self._place(question)][1]

    def report(self):
        """For each watched question a word for what the last deed made of it."""
        return self._words

    def _place(self, question):
        """Where the question is among the watched ones."""
        place = place_of(self.watched, question)
        if place < 0:
            raise Undefined("watched")
        return place

    def _edit(self, rows):
        """Do a deed that gives the game these rows."""
        self._do(Game(rows), self.watched)

    def _do(self, game, watched):
        """Do a deed that can be undone."""
        self._become(game, watched, self._past + ((self.game, self.watched),), ())

    def _become(self, game, watched, past, future):
        """Take all this over behind a deed, and look at each watched question."""
        looks = [look_at(game, question, self._kept_for(question)) for question in watched]
        self.game = game
        self.watched = watched
        self.many = len(past)
        self._kept = tuple([look[1:] for look in looks])
        self._words = tuple([look[0] for look in looks])
        self._past = past
        self._future = future

    def _kept_for(self, question):
        """The claim and paper that are kept for the question; () if it is not watched yet."""
        place = place_of(self.watched, question)
        return self._kept[place] if place >= 0 else ()


def same_state(one, other):
    """Tell whether two desks have the same game, questions, claims, papers, and numbers of deeds to undo and redo."""
    if one.game != other.game or one.watched != other.watched or one._kept != other._kept:
        return False
    return one.many == other.many and len(one._future) == len(other._future)


def look_at(game, question, kept):
    """The word that report tells of a watched question, its claim and its paper; kept is () if it is new."""
    if not is_question(game, question):
        return ("none" if kept else "new", None, None)
    if kept and claim_holds(game, kept[0], kept[1]):
        return ("kept", kept[0], kept[1])
    claim = answer_of(game, question)
    paper = paper_of(game, question)
    if not kept:
        return ("new", claim, paper)
    return ("renewed" if claim == kept[0] else "changed", claim, paper)


def place_of(watched, value):
    """Where value, which may be anything, is among the watched questions; -1 if it is not."""
    for place, question in enumerate(watched):
        # True and 1 are equal for Python, but no question has a bool in it.
        if question == value and not has_bool(value):
            return place
    return -1


def is_rule(game, value):
    """Tell whether value is a rule of the game."""
    return is_between(value, 0, game.rules - 1)


def left_out(members, place):
    """The tuple without the member at this place."""
    return members[:place] + members[place + 1:]


def replaced(members, place, member):
    """The tuple with another member at this place."""
    return members[:place] + (member,) + members[place + 1:]
