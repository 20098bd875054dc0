"""Points [17] and [18] and promise (12): the desk, and the claims and papers that it keeps."""

import random
import unittest

from tests.asking import all_questions, answer_by_words, question_by_words
from tests.helpers import (
    CIRCLE, PATIENT, OwnTuple, larger_games, nested, never_right, small_games, special_games, wrong_numbers,
)
from votemargins.claims import answer_of
from votemargins.desk import Desk, same_state
from votemargins.errors import (
    InvalidNumber, InvalidQuestion, InvalidRow, NothingToUndo, Undefined, VoteError,
)
from votemargins.games import Game
from votemargins.papers import claim_holds, paper_of

ONE = Game(((1,),))
HALF = Game(((1, 0), (0, 1)))
THIRD = Game(((1, -1, 1), (1, 1, -1), (-1, 1, 1)))
NOTHING = Game(((1, -1), (-1, 1)))

DEEDS = ("show", "hide", "hire", "dismiss", "turn", "watch", "leave", "undo", "redo")


def seen(desk):
    """All that can be seen of a desk."""
    return (
        desk.game.rows, desk.watched, desk.many, desk.report(),
        tuple((desk.claim(question), desk.paper(question)) for question in desk.watched),
    )


def are_signs(value, length):
    """Whether value is a tuple of so many signs."""
    return type(value) is tuple and len(value) == length and all(type(n) is int and -1 <= n <= 1 for n in value)


class Checks(unittest.TestCase):
    def refused(self, error_class, told, call, *arguments, **named):
        with self.assertRaises(error_class) as caught:
            call(*arguments, **named)
        self.assertIs(type(caught.exception), error_class)
        name = {Undefined: "what", NothingToUndo: "word"}.get(error_class, "value")
        self.assertIs(getattr(caught.exception, name), told)

    def changes_nothing(self, desk, error_class, told, call, *arguments):
        before, state = seen(desk), dict(vars(desk))
        self.refused(error_class, told, call, *arguments)
        self.assertEqual(seen(desk), before)
        self.assertEqual(vars(desk), state)


class Edits(Checks):
    def test_a_new_desk(self):
        for game in [ONE, HALF, CIRCLE]:
            desk = Desk(game)
            self.assertEqual(desk.game, game)
            self.assertEqual((desk.watched, desk.many, desk.report()), ((), 0, ()))
            self.assertTrue({"game", "watched", "many"} <= set(vars(desk)))

    def test_show(self):
        desk = Desk(ONE)
        self.assertIsNone(desk.show((-1,)))
        self.assertEqual(desk.game.rows, ((1,), (-1,)))
        self.assertIsNone(desk.show(row=OwnTuple((0,))))
        self.assertEqual(desk.game.rows, ((1,), (-1,), (0,)))
        self.assertIs(type(desk.game.rows[2]), tuple)
        desk.show((1,))
        self.assertEqual(desk.game.examples, 4)
        self.changes_nothing(desk, InvalidRow, row := (1,), desk.show, row)
        self.assertEqual(desk.many, 3)

    def test_hide(self):
        desk = Desk(Game(((1, 0), (0, 0), (-1, 1))))
        self.assertIsNone(desk.hide(1))
        self.assertEqual(desk.game.rows, ((1, 0), (-1, 1)))
        self.assertIsNone(desk.hide(example=1))
        self.assertEqual(desk.game.rows, ((1, 0),))
        self.changes_nothing(desk, Undefined, "alone", desk.hide, 0)
        self.changes_nothing(desk, InvalidNumber, 1, desk.hide, 1)
        self.assertEqual(desk.many, 2)

    def test_hire(self):
        desk = Desk(Game(((1,), (0,))))
        self.assertIsNone(desk.hire((-1, 1)))
        self.assertEqual(desk.game.rows, ((1, -1), (0, 1)))
        self.assertIsNone(desk.hire(column=OwnTuple((0, 0))))
        self.assertIsNone(desk.hire((1, 1)))
        self.assertEqual(desk.game.rows, ((1, -1, 0, 1), (0, 1, 0, 1)))
        self.changes_nothing(desk, InvalidRow, column := (1, 1), desk.hire, column)

    def test_dismiss(self):
        desk = Desk(Game(((1, 0, -1), (0, 1, 1))))
        self.assertIsNone(desk.dismiss(1))
        self.assertEqual(desk.game.rows, ((1, -1), (0, 1)))
        self.assertIsNone(desk.dismiss(rule=0))
        self.assertEqual(desk.game.rows, ((-1,), (1,)))
        self.changes_nothing(desk, Undefined, "alone", desk.dismiss, 0)
        self.changes_nothing(desk, InvalidNumber, 1, desk.dismiss, 1)

    def test_turn(self):
        desk = Desk(HALF)
        self.assertIsNone(desk.turn(0, 1, -1))
        self.assertEqual(desk.game.rows, ((1, -1), (0, 1)))
        self.assertIsNone(desk.turn(sign=0, rule=0, example=0))
        self.assertEqual(desk.game.rows, ((0, -1), (0, 1)))
        desk.turn(1, 1, 1)
        self.assertEqual((desk.game.rows, desk.many), (((0, -1), (0, 1)), 3))

    def test_four_by_four_and_one_by_one(self):
        desk = Desk(CIRCLE)
        self.changes_nothing(desk, InvalidRow, row := (1, 1, 1, 1), desk.show, row)
        self.changes_nothing(desk, InvalidRow, row, desk.hire, row)
        for k in range(3):
            desk.hide(0)
            desk.dismiss(desk.game.rules - 1)
        self.assertEqual(desk.game.rows, ((-1,),))
        self.changes_nothing(desk, Undefined, "alone", desk.hide, 0)
        self.changes_nothing(desk, Undefined, "alone", desk.dismiss, 0)
        for k in range(6):
            desk.undo()
        self.assertEqual(desk.game, CIRCLE)

    def test_wrong_rows_and_columns(self):
        for game in [ONE, HALF, THIRD, Game(((1, 0, 1),)), Game(((1,), (0,), (1,))), CIRCLE]:
            desk = Desk(game)
            for value in never_right() + [(2,) * 3, (True, 1, 1), (1, 1, 2), (1, 1, -2), [1, 1], [1, 1, 1], (1,) * 5,
                                          (0, False), (1, None), ("1", "1"), ((1, 1),), ((1,), (1,))]:
                if not are_signs(value, game.rules) or game.examples == 4:
                    self.changes_nothing(desk, InvalidRow, value, desk.show, value)
                if not are_signs(value, game.examples) or game.rules == 4:
                    self.changes_nothing(desk, InvalidRow, value, desk.hire, value)
            for length in range(6):
                value = (1,) * length
                if length != game.rules or game.examples == 4:
                    self.changes_nothing(desk, InvalidRow, value, desk.show, value)
                if length != game.examples or game.rules == 4:
                    self.changes_nothing(desk, InvalidRow, value, desk.hire, value)

    def test_wrong_numbers(self):
        for game in [ONE, HALF, CIRCLE, Game(((1, 0, 1),)), Game(((1,), (0,), (1,)))]:
            desk = Desk(game)
            for value in wrong_numbers() + [4, 5]:
                self.changes_nothing(desk, InvalidNumber, value, desk.hide, value)
                self.changes_nothing(desk, InvalidNumber, value, desk.dismiss, value)
                self.changes_nothing(desk, InvalidNumber, value, desk.turn, value, 0, 0)
                self.changes_nothing(desk, InvalidNumber, value, desk.turn, 0, value, 0)
                if value != -1:
                    self.changes_nothing(desk, InvalidNumber, value, desk.turn, 0, 0, value)
            self.changes_nothing(desk, InvalidNumber, game.examples, desk.hide, game.examples)
            self.changes_nothing(desk, InvalidNumber, game.rules, desk.dismiss, game.rules)
            self.changes_nothing(desk, InvalidNumber, game.examples, desk.turn, game.examples, 0, 0)
            self.changes_nothing(desk, InvalidNumber, game.rules, desk.turn, 0, game.rules, 0)
            self.changes_nothing(desk, InvalidNumber, 2, desk.turn, 0, 0, 2)
            self.changes_nothing(desk, InvalidNumber, -2, desk.turn, 0, 0, -2)

    def test_order_of_errors(self):
        desk = Desk(HALF)
        self.changes_nothing(desk, InvalidNumber, "a", desk.turn, "a", "b", "c")
        self.changes_nothing(desk, InvalidNumber, "b", desk.turn, 0, "b", "c")
        self.changes_nothing(desk, InvalidNumber, "c", desk.turn, 0, 0, "c")
        self.changes_nothing(Desk(ONE), InvalidNumber, True, Desk(ONE).hide, True)

    def test_a_game_that_was_read_stays_as_it_was(self):
        desk = Desk(HALF)
        read = []
        for deed in [lambda: desk.turn(0, 0, -1), lambda: desk.show((1, 1)), lambda: desk.hire((1, 0, 1)),
                     lambda: desk.hide(0), lambda: desk.dismiss(1), desk.undo, desk.redo]:
            read.append((desk.game, desk.game.rows))
            deed()
        for game, rows in read:
            self.assertIs(game.rows, rows)
            self.assertEqual((game.examples, game.rules), (len(rows), len(rows[0])))
        self.assertEqual(HALF.rows, ((1, 0), (0, 1)))


class Watching(Checks):
    def test_in_their_order(self):
        desk = Desk(THIRD)
        self.assertIsNone(desk.watch(("worth",)))
        self.assertIsNone(desk.watch(question=("fewest",)))
        desk.watch(("votes", 4))
        self.assertEqual(desk.watched, (("worth",), ("fewest",), ("votes", 4)))
        desk.watch(("worth",))
        self.assertEqual(desk.watched, (("worth",), ("fewest",), ("votes", 4)))
        self.assertEqual((desk.many, desk.report()), (4, ("kept", "kept", "kept")))
        self.assertIsNone(desk.leave(("worth",)))
        self.assertEqual(desk.watched, (("fewest",), ("votes", 4)))
        desk.watch(("worth",))
        self.assertEqual(desk.watched, (("fewest",), ("votes", 4), ("worth",)))
        self.assertEqual((desk.many, desk.report()), (6, ("kept", "kept", "new")))
        desk.leave(question=("votes", 4))
        self.assertEqual(desk.watched, (("fewest",), ("worth",)))

    def test_plain_tuples(self):
        desk = Desk(THIRD)
        desk.watch(OwnTuple(("faults", OwnTuple((2, 1, 2)), 0, "silent")))
        desk.watch(OwnTuple(("worth",)))
        for value in [desk.watched, desk.watched[0], desk.watched[0][1], desk.watched[1], desk.claim(desk.watched[0]),
                      desk.claim(desk.watched[0])[1], desk.paper(desk.watched[0]), desk.report(), desk.paper(("worth",))]:
            self.assertIs(type(value), tuple)
        self.assertEqual(desk.claim(OwnTuple(("worth",))), ("worth", (1, 3)))
        desk.leave(OwnTuple(("worth",)))
        self.assertEqual(len(desk.watched), 1)

    def test_refused_questions(self):
        desk = Desk(THIRD)
        desk.watch(("votes", 1))
        for value in never_right() + [("votes", True), ("votes", 25), ["worth"], ("margin", (2, 4)), ("worth", (1, 3)),
                                      ("faults", (1, 1), 0, "silent"), ("faults", (1, 1, 1), 3, "silent"), ("never",)]:
            self.changes_nothing(desk, InvalidQuestion, value, desk.watch, value)
            for call in [desk.leave, desk.claim, desk.paper]:
                self.changes_nothing(desk, Undefined, "watched", call, value)

    def test_what_is_not_watched(self):
        desk = Desk(THIRD)
        for value in all_questions(THIRD):
            for call in [desk.leave, desk.claim, desk.paper]:
                self.changes_nothing(desk, Undefined, "watched", call, value)
        desk.watch(("worth",))
        desk.leave(("worth",))
        for call in [desk.leave, desk.claim, desk.paper]:
            self.changes_nothing(desk, Undefined, "watched", call, ("worth",))

    def test_a_bool_is_no_integer(self):
        desk = Desk(Game(((1, 1), (1, 1))))
        for question in [("votes", 1), ("margin", (1, 1)), ("margin", (0, 1)), ("faults", (1, 0), 0, "silent"),
                         ("faults", (2, 1), 1, "lying")]:
            desk.watch(question)
        for value in [("votes", True), ("margin", (1, True)), ("margin", (True, 1)), ("margin", (False, 1)),
                      ("faults", (True, 0), 0, "silent"), ("faults", (1, False), 0, "silent"),
                      ("faults", (1, 0), False, "silent"), ("faults", (2, 1), True, "lying"),
                      ("faults", (2, True), 1, "lying")]:
            for call in [desk.leave, desk.claim, desk.paper]:
                self.changes_nothing(desk, Undefined, "watched", call, value)
            self.changes_nothing(desk, InvalidQuestion, value, desk.watch, value)
        for value in [["votes", 1], ("votes", [1]), ("votes", (1,)), ("margin", [1, 1]), ("votes", "1")]:
            self.changes_nothing(desk, Undefined, "watched", desk.claim, value)

    def test_any_value(self):
        desk = Desk(ONE)
        desk.watch(("worth",))
        for value in [desk, Desk(ONE), nested(tuple, 60), nested(list, 60), ("worth",) * 30000, None, True, ONE, (ONE,)]:
            for call in [desk.leave, desk.claim, desk.paper]:
                self.changes_nothing(desk, Undefined, "watched", call, value)
            self.changes_nothing(desk, InvalidQuestion, value, desk.watch, value)

    def test_questions_stay_whatever_numbers_examples_get(self):
        desk = Desk(Game(((1, 1), (-1, -1), (1, 0))))
        question = ("faults", (1, 1), 1, "silent")
        desk.watch(question)
        self.assertEqual(desk.claim(question), ("not right", (1, 1), 1, "silent"))
        desk.hide(1)
        self.assertEqual(desk.watched, (question,))
        self.assertEqual(desk.claim(question), question + (0,))
        self.assertEqual(desk.report(), ("changed",))


class UndoAndRedo(Checks):
    def test_at_both_ends(self):
        desk = Desk(HALF)
        self.changes_nothing(desk, NothingToUndo, "undo", desk.undo)
        self.changes_nothing(desk, NothingToUndo, "redo", desk.redo)
        desk.turn(0, 0, 0)
        self.changes_nothing(desk, NothingToUndo, "redo", desk.redo)
        self.assertIsNone(desk.undo())
        self.assertEqual((desk.game, desk.many), (HALF, 0))
        self.changes_nothing(desk, NothingToUndo, "undo", desk.undo)
        self.assertIsNone(desk.redo())
        self.assertEqual((desk.game.rows, desk.many), (((0, 0), (0, 1)), 1))
        self.changes_nothing(desk, NothingToUndo, "redo", desk.redo)

    def test_a_new_deed_ends_what_can_be_redone(self):
        desk = Desk(HALF)
        for sign in (0, -1, 1):
            desk.turn(0, 0, sign)
        desk.undo()
        desk.undo()
        self.changes_nothing(desk, InvalidNumber, 2, desk.hide, 2)
        desk.redo()
        self.assertEqual(desk.game.rows[0], (-1, 0))
        desk.watch(("worth",))
        self.changes_nothing(desk, NothingToUndo, "redo", desk.redo)
        self.assertEqual(desk.many, 3)

    def test_deeds_that_change_nothing_are_deeds(self):
        desk = Desk(HALF)
        desk.watch(("worth",))
        desk.undo()
        desk.turn(0, 0, 1)
        self.assertEqual((desk.game, desk.many), (HALF, 1))
        self.changes_nothing(desk, NothingToUndo, "redo", desk.redo)
        desk.watch(("worth",))
        desk.watch(("worth",))
        self.assertEqual((desk.watched, desk.many), ((("worth",),), 3))
        desk.undo()
        self.assertEqual((desk.watched, desk.many), ((("worth",),), 2))
        desk.undo()
        self.assertEqual((desk.watched, desk.many), ((), 1))

    def test_questions_come_back_in_their_place(self):
        desk = Desk(THIRD)
        for question in [("worth",), ("fewest",), ("votes", 3)]:
            desk.watch(question)
        desk.leave(("fewest",))
        desk.undo()
        self.assertEqual(desk.watched, (("worth",), ("fewest",), ("votes", 3)))
        self.assertEqual(desk.report(), ("kept", "new", "kept"))
        desk.redo()
        self.assertEqual((desk.watched, desk.report()), ((("worth",), ("votes", 3)), ("kept", "kept")))

    def test_there_and_back_again(self):
        desk, states = Desk(HALF), []
        for deed in [lambda: desk.watch(("worth",)), lambda: desk.hire((1, 1)), lambda: desk.watch(("fewest",)),
                     lambda: desk.hide(0), lambda: desk.leave(("worth",)), lambda: desk.dismiss(0)]:
            states.append((desk.game, desk.watched, desk.many))
            deed()
        last = (desk.game, desk.watched, desk.many)
        for state in reversed(states):
            desk.undo()
            self.assertEqual((desk.game, desk.watched, desk.many), state)
        for state in states[1:] + [last]:
            desk.redo()
            self.assertEqual((desk.game, desk.watched, desk.many), state)


class KeptClaims(Checks):
    def test_the_very_paper_is_kept(self):
        desk = Desk(HALF)
        question = ("margin", (1, 2))
        desk.watch(question)
        paper = desk.paper(question)
        self.assertEqual(paper, (1, 1))
        desk.turn(0, 1, 1)
        desk.turn(1, 0, 1)
        self.assertNotEqual(paper_of(desk.game, question), paper)
        self.assertEqual(desk.paper(question), paper)
        self.assertEqual((desk.claim(question), desk.report()), (question, ("kept",)))
        desk.watch(question)
        self.assertEqual((desk.paper(question), desk.report()), (paper, ("kept",)))
        desk.leave(question)
        desk.watch(question)
        self.assertEqual((desk.paper(question), desk.report()), (paper_of(desk.game, question), ("new",)))

    def test_undo_keeps_what_still_holds(self):
        desk = Desk(Game(((1, 1), (1, 1))))
        question = ("margin", (1, 2))
        desk.watch(question)
        self.assertNotEqual(desk.paper(question), (1, 1))
        desk.turn(0, 1, 0)
        desk.turn(1, 0, 0)
        self.assertEqual((desk.game, desk.paper(question)), (HALF, (1, 1)))
        desk.undo()
        desk.undo()
        self.assertEqual(desk.game.rows, ((1, 1), (1, 1)))
        self.assertEqual((desk.paper(question), desk.report()), ((1, 1), ("kept",)))
        desk.redo()
        self.assertEqual((desk.paper(question), desk.report()), ((1, 1), ("kept",)))

    def test_renewed(self):
        desk = Desk(HALF)
        desk.watch(("margin", (0, 1)))
        self.assertEqual(desk.paper(("margin", (0, 1))), (1, 1))
        desk.hire((1, 1))
        self.assertEqual(desk.report(), ("renewed",))
        self.assertEqual(desk.claim(("margin", (0, 1))), ("margin", (0, 1)))
        self.assertEqual(desk.paper(("margin", (0, 1))), paper_of(desk.game, ("margin", (0, 1))))

    def test_changed(self):
        desk = Desk(HALF)
        desk.watch(("worth",))
        self.assertEqual(desk.report(), ("new",))
        desk.turn(0, 1, 1)
        self.assertEqual((desk.report(), desk.claim(("worth",))), (("changed",), ("worth", (1, 1))))
        desk.undo()
        self.assertEqual((desk.report(), desk.claim(("worth",))), (("changed",), ("worth", (1, 2))))

    def test_none_and_again_a_question(self):
        desk = Desk(HALF)
        question = ("faults", (1, 1), 1, "silent")
        desk.watch(question)
        self.assertEqual(desk.claim(question), question + (0,))
        self.assertEqual(desk.paper(question), (1,))
        desk.hide(0)
        self.assertEqual((desk.claim(question), desk.paper(question), desk.report()), (None, None, ("none",)))
        self.assertEqual(desk.watched, (question,))
        self.changes_nothing(desk, InvalidQuestion, question, desk.watch, question)
        desk.turn(0, 0, 1)
        self.assertEqual(desk.report(), ("none",))
        desk.show((0, 0))
        self.assertEqual(desk.claim(question), ("not right", (1, 1), 1, "silent"))
        self.assertEqual((desk.paper(question), desk.report()), (0, ("changed",)))
        desk.undo()
        self.assertEqual((desk.claim(question), desk.paper(question), desk.report()), (None, None, ("none",)))
        desk.undo()
        desk.undo()
        self.assertEqual((desk.claim(question), desk.paper(question)), (question + (0,), (1,)))
        self.assertEqual(desk.report(), ("changed",))
        desk.leave(question)
        self.assertEqual(desk.report(), ())

    def test_new_as_none(self):
        desk = Desk(HALF)
        question = ("faults", (1, 1), 1, "silent")
        desk.watch(question)
        desk.hide(1)
        desk.leave(question)
        desk.undo()
        self.assertEqual((desk.watched, desk.report()), ((question,), ("new",)))
        self.assertEqual((desk.claim(question), desk.paper(question)), (None, None))
        desk.turn(0, 0, 1)
        self.assertEqual(desk.report(), ("none",))

    def test_what_was_kept_is_forgotten(self):
        # The paper told first would hold again, but it was forgotten when the question became none.
        desk = Desk(HALF)
        question = ("faults", (1, 1), 1, "silent")
        desk.watch(question)
        desk.turn(1, 0, 1)
        self.assertEqual(desk.paper(question), (0, 1))
        desk.turn(1, 0, 0)
        self.assertEqual(desk.paper(question), (1,))
        desk.dismiss(0)
        desk.undo()
        self.assertEqual((desk.report(), desk.paper(question)), (("changed",), (1,)))

    def test_by_name(self):
        desk = Desk(game=THIRD)
        desk.watch(question=("worth",))
        self.assertEqual(desk.claim(question=("worth",)), ("worth", (1, 3)))
        self.assertEqual(desk.paper(question=("worth",)), paper_of(THIRD, ("worth",)))

    def test_all_questions_of_a_game(self):
        for game in small_games()[::9] + larger_games()[::9] + [CIRCLE, Game(PATIENT[0][0])]:
            for question in all_questions(game):
                desk = Desk(game)
                desk.watch(question)
                self.assertEqual(desk.claim(question), answer_of(game, question))
                self.assertEqual(desk.paper(question), paper_of(game, question))
                self.assertEqual(desk.report(), ("new",))


class Desks(Checks):
    def test_each_keeps_its_own(self):
        one, other = Desk(HALF), Desk(HALF)
        one.watch(("worth",))
        one.turn(0, 0, -1)
        self.assertEqual(seen(other), (HALF.rows, (), 0, (), ()))
        other.show((1, 1))
        self.assertEqual(one.game.rows, ((-1, 0), (0, 1)))
        self.assertEqual(one.watched, (("worth",),))

    def test_equal_to_itself_alone(self):
        one, other = Desk(HALF), Desk(HALF)
        self.assertTrue(one == one)
        self.assertFalse(one != one)
        for thing in [other, HALF, None, 0, True, (), ("worth",), "", seen(one)]:
            self.assertFalse(one == thing)
            self.assertTrue(one != thing)
            self.assertFalse(thing == one)

    def test_not_iterable(self):
        desk = Desk(HALF)
        for call in [iter, list, tuple, sum]:
            with self.assertRaises(TypeError):
                call(desk)
        with self.assertRaises(TypeError):
            ("worth",) in desk

    def test_attributes_are_plain_tuples(self):
        desk = Desk(HALF)
        for deed in [lambda: desk.watch(("worth",)), lambda: desk.show((1, 1)), desk.undo]:
            deed()
            for value in vars(desk).values():
                self.assertIn(type(value), (tuple, int, Game))

    def test_same_state(self):
        one, other = Desk(HALF), Desk(HALF)
        self.assertIs(same_state(one, other), True)
        self.assertIs(same_state(one, one), True)
        one.turn(0, 0, 1)
        self.assertIs(same_state(one, other), False)
        other.turn(1, 1, 1)
        self.assertIs(same_state(one, other), True)
        one.turn(0, 0, 0)
        other.turn(0, 1, 1)
        self.assertIs(same_state(one, other), False)
        one.undo()
        self.assertIs(same_state(one, other), False)
        other.undo()
        self.assertIs(same_state(one=one, other=other), True)

    def test_same_state_tells_numbers_of_deeds_apart(self):
        one, other = Desk(HALF), Desk(HALF)
        one.turn(0, 0, 1)
        one.undo()
        self.assertIs(same_state(one, other), False)
        self.assertIs(same_state(other, one), False)
        other.show((1, 1))
        other.undo()
        self.assertIs(same_state(one, other), True)

    def test_same_state_tells_orders_and_papers_apart(self):
        one, other = Desk(HALF), Desk(HALF)
        one.watch(("worth",))
        one.watch(("fewest",))
        other.watch(("fewest",))
        other.watch(("worth",))
        self.assertIs(same_state(one, other), False)
        one, other = Desk(HALF), Desk(Game(((1, 1), (1, 1))))
        for desk in (one, other):
            desk.watch(("margin", (1, 2)))
        one.turn(0, 1, 1)
        one.turn(1, 0, 1)
        other.turn(0, 1, 1)
        other.turn(1, 0, 1)
        self.assertEqual((one.game, one.watched, one.many), (other.game, other.watched, other.many))
        self.assertEqual(one.claim(("margin", (1, 2))), other.claim(("margin", (1, 2))))
        self.assertNotEqual(one.paper(("margin", (1, 2))), other.paper(("margin", (1, 2))))
        self.assertIs(same_state(one, other), False)


    def test_same_state_tells_questions_apart_that_are_none(self):
        one, other = Desk(HALF), Desk(HALF)
        one.watch(("faults", (1, 1), 1, "silent"))
        other.watch(("faults", (1, 1), 1, "lying"))
        for desk in (one, other):
            desk.hide(1)
        self.assertEqual([one.claim(one.watched[0]), other.claim(other.watched[0])], [None, None])
        self.assertIs(same_state(one, other), False)
        other.undo()
        other.undo()
        other.watch(one.watched[0])
        other.hide(1)
        self.assertIs(same_state(one, other), True)


class Reckoning:
    """A desk as the document tells it, plainly: lists, and copies of them for undo and redo."""

    def __init__(self, rows):
        self.rows, self.watched, self.past, self.future = [list(row) for row in rows], [], [], []
        self.kept, self.words = {}, []

    def game(self):
        return Game(tuple(tuple(row) for row in self.rows))

    def copy(self):
        return [list(row) for row in self.rows], list(self.watched)

    def wrong(self, deed, told):
        """The error for a deed that is refused, and what it keeps; None if the deed is let."""
        examples, rules = len(self.rows), len(self.rows[0])
        if deed in ("show", "hire"):
            length, full = (rules, examples == 4) if deed == "show" else (examples, rules == 4)
            return None if are_signs(told[0], length) and not full else (InvalidRow, told[0])
        if deed in ("hide", "dismiss"):
            many = examples if deed == "hide" else rules
            if type(told[0]) is not int or not 0 <= told[0] < many:
                return (InvalidNumber, told[0])
            return (Undefined, "alone") if many == 1 else None
        if deed == "turn":
            for value, low, high in zip(told, (0, 0, -1), (examples - 1, rules - 1, 1)):
                if type(value) is not int or not low <= value <= high:
                    return (InvalidNumber, value)
            return None
        if deed == "watch":
            return None if question_by_words(self.game(), told[0]) else (InvalidQuestion, told[0])
        if deed == "leave":
            return None if repr(told[0]) in map(repr, self.watched) else (Undefined, "watched")
        return None if (self.past if deed == "undo" else self.future) else (NothingToUndo, deed)

    def do(self, deed, told):
        before = list(self.watched)
        if deed == "undo":
            self.future.append(self.copy())
            self.rows, self.watched = self.past.pop()
        elif deed == "redo":
            self.past.append(self.copy())
            self.rows, self.watched = self.future.pop()
        else:
            self.past.append(self.copy())
            self.future = []
            self.edit(deed, told)
        self.look(before)

    def edit(self, deed, told):
        if deed == "show":
            self.rows.append(list(told[0]))
        elif deed == "hide":
            del self.rows[told[0]]
        elif deed == "hire":
            for row, sign in zip(self.rows, told[0]):
                row.append(sign)
        elif deed == "dismiss":
            for row in self.rows:
                del row[told[0]]
        elif deed == "turn":
            self.rows[told[0]][told[1]] = told[2]
        elif deed == "watch" and told[0] not in self.watched:
            self.watched.append(told[0])
        elif deed == "leave":
            self.watched.remove(told[0])

    def look(self, before):
        game, old, self.kept, self.words = self.game(), self.kept, {}, []
        for question in self.watched:
            now = (None, None)
            if question_by_words(game, question):
                now = (answer_of(game, question), paper_of(game, question))
            if question not in before:
                word = "new"
            elif now == (None, None):
                word = "none"
            elif claim_holds(game, *old[question]):
                word, now = "kept", old[question]
            else:
                word = "renewed" if old[question][0] == now[0] else "changed"
            self.kept[question] = now
            self.words.append(word)


class DrawnDeeds(Checks):
    def setUp(self):
        self.draw = random.Random(20)
        self.words = {}
        self.errors = {}
        self.others = 0

    def row(self, length):
        wrong = self.draw.random()
        if wrong < 0.05:
            length += self.draw.choice((-1, 1))
        signs = tuple(self.draw.choice((-1, 0, 0, 1, 1)) for _ in range(length))
        if wrong > 0.97:
            return self.draw.choice([list(signs), signs[:-1] + (2,), signs[:-1] + (True,), None])
        return signs

    def number(self, most):
        return self.draw.choice(list(range(most)) * 6 + [-1, most, True, None])

    def question(self, plain):
        votes = tuple(self.draw.choice((0, 1, 1, 2, 999999)) for _ in range(self.draw.choice((len(plain.rows[0]), 2, 3))))
        return self.draw.choice([
            ("worth",), ("fewest",), ("votes", self.draw.choice((1, 2, 3, 4, 5, 9, 24, 25))),
            ("margin", self.draw.choice(((0, 1), (1, 2), (1, 3), (-1, 1), (2, 4)))),
            ("faults", votes, self.draw.choice((0, 1, 3)), self.draw.choice(("silent", "lying"))),
            ("votes", True), ("never",), *plain.watched,
        ])

    def deed(self, plain, most):
        deed = self.draw.choice(DEEDS + ("turn", "turn", "watch", "watch", "undo", "redo", "redo"))
        if deed == "watch" and len(plain.watched) == most:
            deed = "turn"
        examples, rules = len(plain.rows), len(plain.rows[0])
        return deed, {
            "show": lambda: (self.row(rules),),
            "hide": lambda: (self.number(examples),),
            "hire": lambda: (self.row(examples),),
            "dismiss": lambda: (self.number(rules),),
            "turn": lambda: (self.number(examples), self.number(rules), self.draw.choice((-1, 0, 1, 0, 1, 2))),
            "watch": lambda: (self.question(plain),),
            "leave": lambda: (self.question(plain),),
            "undo": tuple,
            "redo": tuple,
        }[deed]()

    def step(self, desk, plain, deed, told):
        wrong = plain.wrong(deed, told)
        if wrong:
            self.errors[wrong[0]] = self.errors.get(wrong[0], 0) + 1
            self.changes_nothing(desk, *wrong, getattr(desk, deed), *told)
            return 0
        self.assertIsNone(getattr(desk, deed)(*told))
        plain.do(deed, told)
        self.compare(desk, plain)
        return 1

    def compare(self, desk, plain):
        self.assertEqual(desk.game, plain.game())
        self.assertEqual(desk.watched, tuple(plain.watched))
        self.assertEqual(desk.many, len(plain.past))
        self.assertEqual(desk.report(), tuple(plain.words))
        for question, word in zip(plain.watched, plain.words):
            claim, paper = desk.claim(question), desk.paper(question)
            self.assertEqual((claim, paper), plain.kept[question])
            if claim is not None:
                self.assertEqual(claim, answer_by_words(desk.game, question))
                self.assertIs(claim_holds(desk.game, claim, paper), True)
                self.others += paper != paper_of(desk.game, question)
            self.words[word] = self.words.get(word, 0) + 1

    def lead(self, game, deeds, most=8):
        desk, twin, plain = Desk(game), Desk(game), Reckoning(game.rows)
        done = 0
        while done < deeds:
            deed, told = self.deed(plain, most)
            if self.step(desk, plain, deed, told):
                done += 1
                self.assertIs(same_state(desk, twin), False)
                getattr(twin, deed)(*told)
            self.assertIs(same_state(desk, twin), True)

    def test_drawn_rows_of_deeds(self):
        for game in [ONE, HALF, THIRD, NOTHING, Game(((0,),)), Game(((1, 0, 1, -1),)), Game(((1,), (0,), (1,), (-1,)))]:
            for _ in range(4):
                self.lead(game, 30)
        for word in ("new", "none", "kept", "renewed", "changed"):
            self.assertGreater(self.words[word], 20, self.words)
        for error_class in (InvalidRow, InvalidNumber, InvalidQuestion, Undefined, NothingToUndo):
            self.assertGreater(self.errors[error_class], 10, self.errors)
        # Papers that were kept though paper_of would tell others.
        self.assertGreater(self.others, 20)

    def test_sixty_deeds(self):
        for game in [CIRCLE, Game(PATIENT[0][0]), special_games()[-1]]:
            self.lead(game, 60)


class SixtyDeedsAndEightQuestions(Checks):
    def test_the_greatest_numbers(self):
        desk = Desk(CIRCLE)
        questions = [("votes", many) for many in range(18, 25)] + [("fewest",)]
        for question in questions:
            desk.watch(question)
        self.assertEqual(desk.watched, tuple(questions))
        for k in range(22):
            desk.turn(k % 4, k % 3, (0, 1, -1)[k % 5 % 3])
            self.all_true(desk)
        for _ in range(15):
            desk.undo()
            self.all_true(desk)
        for _ in range(15):
            desk.redo()
            self.all_true(desk)
        self.assertEqual(desk.many, 30)

    def all_true(self, desk):
        for question in desk.watched:
            claim = desk.claim(question)
            self.assertEqual(claim, answer_of(desk.game, question))
            self.assertIs(claim_holds(desk.game, claim, desk.paper(question)), True)


class Errors(Checks):
    def test_all_are_vote_errors(self):
        desk = Desk(ONE)
        for call, told in [(desk.show, (1,)), (desk.hire, (None,)), (desk.hide, (0,)), (desk.dismiss, (9,)),
                           (desk.turn, (0, 0, 5)), (desk.watch, (1,)), (desk.leave, (1,)), (desk.undo, ()), (desk.redo, ()),
                           (desk.claim, (1,)), (desk.paper, ([],))]:
            with self.assertRaises(VoteError):
                call(*told)


if __name__ == "__main__":
    unittest.main()
