"""Point [5]: games; [1], [2] and [4] as far as they speak of them."""

import unittest

from tests.helpers import OwnTuple, larger_games, never_right, nested, rows_of_size
from votemargins.errors import InvalidRows, Undefined, VoteError
from votemargins.games import Game


class GamesThatAre(unittest.TestCase):
    def test_all_sizes(self):
        for examples in range(1, 5):
            for rules in range(1, 5):
                rows = ((1,) * rules,) * examples
                game = Game(rows)
                self.assertEqual(game.rows, rows)
                self.assertEqual((game.examples, game.rules), (examples, rules))

    def test_all_signs_at_all_places(self):
        for rows in rows_of_size(2, 3):
            self.assertEqual(Game(rows).rows, rows)

    def test_rows_are_the_examples(self):
        game = Game(((1, 0, -1), (0, 1, 1)))
        self.assertEqual(game.rows[0], (1, 0, -1))
        self.assertEqual((game.examples, game.rules), (2, 3))

    def test_by_name(self):
        self.assertEqual(Game(rows=((1, -1),)).rows, ((1, -1),))

    def test_kinds_of_the_attributes(self):
        game = Game(OwnTuple((OwnTuple((1, 0)), (0, 1))))
        self.assertIs(type(game.rows), tuple)
        for row in game.rows:
            self.assertIs(type(row), tuple)
            for sign in row:
                self.assertIs(type(sign), int)
        self.assertIs(type(game.examples), int)
        self.assertIs(type(game.rules), int)

    def test_attributes_are_set_on_each_object(self):
        for game in larger_games():
            self.assertTrue({"rows", "examples", "rules"} <= set(vars(game)))


class GamesThatAreNot(unittest.TestCase):
    def refused(self, value):
        with self.assertRaises(InvalidRows) as caught:
            Game(value)
        self.assertIs(caught.exception.value, value)
        self.assertIs(type(caught.exception), InvalidRows)
        self.assertIsInstance(caught.exception, VoteError)

    def test_any_value(self):
        for value in never_right():
            self.refused(value)

    def test_too_few_and_too_many(self):
        for value in [(), ((),), ((), ()), ((1,),) * 5, ((1,) * 5,), ((1,) * 5,) * 5, ((1,) * 4,) * 5]:
            self.refused(value)

    def test_rows_of_unequal_lengths(self):
        for value in [
            ((1,), (1, 1)), ((1, 1), (1,)), ((1, 1), (1, 1), (1,)), ((1,), ()), ((), (1,)),
            ((1, 1, 1, 1), (1, 1, 1, 1), (1, 1, 1, 1), (1, 1, 1)),
        ]:
            self.refused(value)

    def test_no_signs(self):
        for wrong in [2, -2, 999999999999, -999999999999, True, False, None, "", "1", (), (1,), [], [1],
                      Game(((1,),)), Undefined("right"), nested(tuple, 58)]:
            self.refused(((wrong,),))
            self.refused(((1, wrong),))
            self.refused(((1, 1), (wrong, 1)))
            self.refused(((0, 0), (1, -1), (0, 0), (0, wrong)))

    def test_lists_for_tuples(self):
        for value in [[(1, 0)], [[1, 0]], ([1, 0],), ((1, 0), [1, 0]), ([1, 0], (1, 0))]:
            self.refused(value)

    def test_a_game_and_its_parts(self):
        game = Game(((1, 0), (0, 1)))
        self.refused(game)
        self.refused((game,))
        self.refused((game.rows,))
        self.refused(game.rows[0])

    def test_the_error_keeps_a_list_itself(self):
        rows = [[1]]
        with self.assertRaises(InvalidRows) as caught:
            Game(rows=rows)
        rows.append([0])
        self.assertIs(caught.exception.value, rows)


class GamesAsObjects(unittest.TestCase):
    def test_equal_if_their_rows_are(self):
        games = [Game(rows) for rows in rows_of_size(2, 2)] + [Game(rows) for rows in rows_of_size(1, 4)]
        for one in games:
            self.assertIs(one == Game(one.rows), True)
            self.assertIs(one != Game(one.rows), False)
        for one in games:
            for other in games:
                self.assertIs(one == other, one.rows == other.rows)
                self.assertIs(one != other, one.rows != other.rows)

    def test_other_sizes_are_not_equal(self):
        self.assertFalse(Game(((0, 0),)) == Game(((0,), (0,))))
        self.assertFalse(Game(((0,),)) == Game(((0, 0),)))

    def test_equal_to_nothing_else(self):
        game = Game(((1, 0), (0, 1)))
        for other in [game.rows, list(game.rows), [[1, 0], [0, 1]], None, True, False, 0, 2, "",
                      "Game", (), (game,), [game], InvalidRows(game.rows), Undefined("right")]:
            self.assertIs(game == other, False)
            self.assertIs(other == game, False)
            self.assertIs(game != other, True)
            self.assertIs(other != game, True)

    def test_not_iterable(self):
        game = Game(((1, 0), (0, 1)))
        with self.assertRaises(TypeError):
            iter(game)
        with self.assertRaises(TypeError):
            list(game)
        with self.assertRaises(TypeError):
            (1, 0) in game
        with self.assertRaises(TypeError):
            first, second = game


if __name__ == "__main__":
    unittest.main()
