"""Point [3]: errors."""

import unittest

from tests.helpers import ERRORS_OF_VALUE, nested
from votemargins import errors
from votemargins.errors import NothingToUndo, Undefined, VoteError
from votemargins.games import Game

CLASSES = [getattr(errors, name) for name in ERRORS_OF_VALUE] + [Undefined, NothingToUndo]


class ErrorClasses(unittest.TestCase):
    def test_vote_error_is_a_value_error(self):
        self.assertEqual(VoteError.__bases__, (ValueError,))

    def test_each_stands_under_vote_error(self):
        for error_class in CLASSES:
            with self.subTest(error_class=error_class.__name__):
                self.assertTrue(issubclass(error_class, VoteError))
                self.assertIsNot(error_class, VoteError)

    def test_none_stands_under_another(self):
        self.assertEqual(len(set(CLASSES)), 12)
        for one in CLASSES:
            for other in CLASSES:
                if one is not other:
                    self.assertFalse(issubclass(one, other), (one, other))

    def test_there_are_no_others(self):
        found = [
            thing for thing in vars(errors).values()
            if isinstance(thing, type) and issubclass(thing, BaseException)
        ]
        self.assertEqual(
            sorted(thing.__name__ for thing in found),
            sorted([thing.__name__ for thing in CLASSES] + ["VoteError"]),
        )

    def test_each_is_defined_in_errors(self):
        for error_class in CLASSES + [VoteError]:
            self.assertEqual(error_class.__module__, "votemargins.errors")


class ErrorAttributes(unittest.TestCase):
    def kept(self):
        return [
            None, True, 0, -1, 999999999999, "", "right", (), (1, (2,)), [], [[1], "x"],
            nested(list, 60), (0,) * 30000, Game(((1,),)), Undefined("right"),
        ]

    def test_value_is_the_argument_itself(self):
        for name in ERRORS_OF_VALUE:
            error_class = getattr(errors, name)
            for argument in self.kept():
                self.assertIs(error_class(argument).value, argument, name)
                self.assertIs(error_class(value=argument).value, argument, name)

    def test_what_is_the_argument_itself(self):
        for argument in self.kept():
            self.assertIs(Undefined(argument).what, argument)
            self.assertIs(Undefined(what=argument).what, argument)

    def test_word_is_the_argument_itself(self):
        for argument in self.kept():
            self.assertIs(NothingToUndo(argument).word, argument)
            self.assertIs(NothingToUndo(word=argument).word, argument)

    def test_later_changes_are_seen(self):
        argument = [1]
        error = errors.InvalidRows(argument)
        argument.append(2)
        self.assertEqual(error.value, [1, 2])

    def test_each_takes_just_one_argument(self):
        for error_class in CLASSES:
            with self.assertRaises(TypeError):
                error_class()
            with self.assertRaises(TypeError):
                error_class(1, 2)

    def test_raised_and_caught(self):
        for error_class in CLASSES:
            for caught in (error_class, VoteError, ValueError):
                with self.assertRaises(caught):
                    raise error_class("undo")


class ErrorsAsObjects(unittest.TestCase):
    def test_not_iterable(self):
        for error_class in CLASSES:
            with self.assertRaises(TypeError):
                iter(error_class((1, 2)))

    def test_equal_to_no_other_kind(self):
        for error_class in CLASSES:
            error = error_class("right")
            for other in ["right", ("right",), ["right"], None, True, 0, Game(((1,),))]:
                self.assertFalse(error == other)
                self.assertTrue(error != other)
            for other_class in CLASSES:
                if other_class is not error_class:
                    self.assertFalse(error == other_class("right"))


if __name__ == "__main__":
    unittest.main()
