"""Point [11] and promises (5) and (6): walls for a number of votes, and bars for all numbers up to one."""

import unittest
from itertools import product

from tests.helpers import (
    CIRCLE, PATIENT, OwnTuple, at_least, by_the_words, first_by_all, four_by_four_games, larger_games, nested,
    never_right, put, small_games, special_games, wrong_numbers,
)
from votemargins.errors import InvalidNumber, Undefined
from votemargins.games import Game
from votemargins.walls import bars, bars_hold, walls, walls_hold

THIRD = Game(((1, -1, 1), (1, 1, -1), (-1, 1, 1)))
HALF = Game(((1, 0), (0, 1)))
NOTHING = Game(((1, -1), (-1, 1)))
ONE = Game(((1,),))
SILENT = Game(((0,),))
WRONG = Game(((-1,),))
SILENT_FOUR = Game(((0,) * 4,) * 4)


def all_reached(game, many):
    """The sums that votes of each sum up to many have, none put up: the plainest walls, where there are some."""
    layers = [{(0,) * game.examples}]
    for _ in range(many):
        layers.append({
            tuple(number + sign for number, sign in zip(sums, column))
            for sums in layers[-1] for column in zip(*game.rows)
        })
    return tuple(tuple(sorted(layer)) for layer in layers)


def highest_alone(layers):
    """The layers without those sums that others are no less than."""
    return tuple(
        tuple(sums for sums in layer if not any(other != sums and at_least(other, sums) for other in layer))
        for layer in layers
    )


def changed_at_one_place(value):
    """The walls or bars, changed at one place in many ways."""
    for t, layer in enumerate(value):
        yield value[:t] + value[t + 1:]
        yield value[:t] + (layer,) + value[t:]
        for wrong in [list(layer), layer[::-1], layer + layer, layer + layer[-1:], layer[:1] + layer, (layer,), (), None,
                      0, True, "", layer[0], OwnTuple(layer)]:
            yield put(value, (t,), wrong)
        for k, sums in enumerate(layer):
            yield put(value, (t,), layer[:k] + layer[k + 1:])
            yield put(value, (t,), tuple(sorted(layer + (tuple(n + 1 for n in sums),))))
            yield put(value, (t,), tuple(sorted(layer + (tuple(n - 1 for n in sums),))))
            for wrong in [list(sums), sums[:-1], sums + (0,), sums + sums, sums[::-1], (), (sums,), None, 1, False, "1",
                          OwnTuple(sums)]:
                yield put(value, (t, k), wrong)
            for i, number in enumerate(sums):
                for wrong in [number + 1, number - 1, number + 100, -100, 0, 1, True, False, None, str(number), (number,),
                              [number], 999999999999]:
                    yield put(value, (t, k, i), wrong)
    yield from [value[:-1], value[1:], value[:0], value + value, value + value[-1:], value[::-1], list(value), (value,),
                nested(tuple, 60), OwnTuple(value)]


class Checks(unittest.TestCase):
    def undefined(self, what, function, *told):
        with self.assertRaises(Undefined) as caught:
            function(*told)
        self.assertIs(type(caught.exception), Undefined)
        self.assertEqual(caught.exception.what, what)

    def plain(self, value, depth=3):
        if depth:
            self.assertIs(type(value), tuple)
            for member in value:
                self.plain(member, depth - 1)
        else:
            self.assertIs(type(value), int)


class Walls(Checks):
    def test_exactly_if_there_are_no_such_votes(self):
        for game in small_games() + larger_games() + special_games() + four_by_four_games(10):
            for many in range(1, 25):
                if first_by_all(game, many):
                    self.undefined("walls", walls, game, many)
                else:
                    told = walls(game, many)
                    self.assertIs(walls_hold(game, many, told), True, (game.rows, many))
                    if sum(map(len, told)) < 300:
                        self.assertTrue(by_the_words(game, many, told, many), (game.rows, many))

    def test_some_none_and_again_some(self):
        for many in (1, 2, 4):
            self.assertIs(by_the_words(THIRD, many, walls(THIRD, many), many), True)
        for many in (3, 5, 6):
            self.undefined("walls", walls, THIRD, many)

    def test_games_that_need_many_votes(self):
        for rows, least in PATIENT:
            game = Game(rows)
            for many in range(1, min(least, 25)):
                self.assertIs(walls_hold(game, many, walls(game, many)), True)
        self.undefined("walls", walls, Game(PATIENT[3][0]), 23)

    def test_the_greatest_number_and_no_votes_at_all(self):
        for game in [CIRCLE, SILENT_FOUR, SILENT, WRONG, NOTHING]:
            for many in (1, 23, 24):
                self.assertIs(walls_hold(game, many, walls(game, many)), True)

    def test_plain(self):
        for game in larger_games():
            for many in (1, 5):
                if not first_by_all(game, many):
                    self.plain(walls(game, many))

    def test_the_same_each_time_and_nothing_changes(self):
        for game in [THIRD, CIRCLE, NOTHING, SILENT_FOUR]:
            before = dict(vars(game))
            told = walls(game, 4)
            self.assertEqual(told, walls(Game(game.rows), 4))
            walls_hold(game, 4, told)
            self.assertEqual(vars(game), before)

    def test_refused(self):
        for game in [ONE, WRONG, THIRD, CIRCLE]:
            for value in wrong_numbers() + [0, 25, 26, 64, 65]:
                with self.assertRaises(InvalidNumber) as caught:
                    walls(game, value)
                self.assertIs(type(caught.exception), InvalidNumber)
                self.assertIs(caught.exception.value, value)

    def test_by_name(self):
        self.assertEqual(walls(game=THIRD, many=2), walls(THIRD, 2))
        self.assertIs(walls_hold(value=walls(THIRD, 2), many=2, game=THIRD), True)


class Bars(Checks):
    def test_exactly_if_there_are_no_votes_of_any_sum_so_far(self):
        for game in small_games() + larger_games() + special_games() + four_by_four_games(10):
            there = [many for many in range(1, 25) if first_by_all(game, many)]
            for many in range(1, 25):
                if there and there[0] <= many:
                    self.undefined("bars", bars, game, many)
                else:
                    told = bars(game, many)
                    self.assertIs(bars_hold(game, many, told), True, (game.rows, many))
                    self.assertIs(walls_hold(game, many, told), True, (game.rows, many))
                    if sum(map(len, told)) < 300:
                        self.assertTrue(by_the_words(game, many, told, 1), (game.rows, many))

    def test_the_greatest_number(self):
        for game in small_games() + special_games():
            if all(first_by_all(game, many) is None for many in range(1, 25)):
                self.assertIs(bars_hold(game, 64, bars(game, 64)), True)
            else:
                self.undefined("bars", bars, game, 64)

    def test_many_sums(self):
        told = bars(CIRCLE, 64)
        self.assertIs(bars_hold(CIRCLE, 64, told), True)
        for at in (1, 32, 64):
            self.assertIs(bars_hold(CIRCLE, 64, put(told, (at,), told[at][1:])), False)
            self.assertIs(bars_hold(CIRCLE, 64, put(told, (at, 0, 0), True)), False)
            self.assertIs(bars_hold(CIRCLE, 64, put(told, (at, 0), list(told[at][0]))), False)
        self.assertIs(bars_hold(CIRCLE, 64, told + told), False)
        self.assertIs(bars_hold(CIRCLE, 64, told[:-1]), False)
        self.assertIs(bars_hold(CIRCLE, 63, told[:-1]), True)

    def test_games_that_need_many_votes(self):
        for rows, least in PATIENT:
            game = Game(rows)
            self.assertIs(bars_hold(game, least - 1, bars(game, least - 1)), True)
            for many in (least, least + 1, 64):
                self.undefined("bars", bars, game, many)

    def test_walls_that_are_no_bars(self):
        # There are votes of 3, none of 4, and again some of 5.
        told = walls(THIRD, 4)
        self.assertIs(walls_hold(THIRD, 4, told), True)
        self.assertIs(bars_hold(THIRD, 4, told), False)
        self.undefined("bars", bars, THIRD, 3)
        self.undefined("bars", bars, THIRD, 4)
        self.assertIs(bars_hold(THIRD, 2, bars(THIRD, 2)), True)

    def test_bars_are_walls_that_are_below_one_all_the_way(self):
        # Sums of 1 at the first step do no harm to walls: all the rest goes on below them.
        told = (((0,),), ((1,),), ((0,),))
        self.assertIs(walls_hold(WRONG, 2, told), True)
        self.assertIs(bars_hold(WRONG, 2, told), False)
        self.assertIs(bars_hold(WRONG, 2, (((7,),), ((0,),), ((0,),))), False)
        self.assertIs(bars_hold(WRONG, 2, (((1,),), ((0,),), ((0,),))), True)

    def test_plain(self):
        for game in larger_games():
            for many in (1, 5):
                if all(first_by_all(game, less) is None for less in range(1, many + 1)):
                    self.plain(bars(game, many))

    def test_the_same_each_time_and_nothing_changes(self):
        for game in [CIRCLE, NOTHING, SILENT_FOUR]:
            before = dict(vars(game))
            told = bars(game, 30)
            self.assertEqual(told, bars(Game(game.rows), 30))
            bars_hold(game, 30, told)
            self.assertEqual(vars(game), before)

    def test_refused(self):
        for game in [ONE, WRONG, THIRD, CIRCLE]:
            for value in wrong_numbers() + [0, 65, 66]:
                with self.assertRaises(InvalidNumber) as caught:
                    bars(game, value)
                self.assertIs(type(caught.exception), InvalidNumber)
                self.assertIs(caught.exception.value, value)

    def test_by_name(self):
        self.assertEqual(bars(game=THIRD, many=2), bars(THIRD, 2))
        self.assertIs(bars_hold(value=bars(THIRD, 2), many=2, game=THIRD), True)


class WhoeverMadeThem(Checks):
    def test_told_by_hand(self):
        told = (((0,),), ((0,),))
        self.assertIs(walls_hold(SILENT, 1, told), True)
        self.assertIs(bars_hold(SILENT, 1, told), True)
        self.assertIs(walls_hold(WRONG, 1, told), True)
        self.assertIs(walls_hold(ONE, 1, told), False)
        self.assertIs(walls_hold(ONE, 1, (((0,),), ((1,),))), False)
        self.assertIs(walls_hold(WRONG, 1, (((0,),), ((-1,),))), True)
        self.assertIs(walls_hold(SILENT, 1, (((0,),), ((-1,),))), False)
        self.assertIs(walls_hold(SILENT, 1, (((-1,),), ((0,),))), False)
        self.assertIs(walls_hold(SILENT, 1, (((-1,), (0,)), ((-5,), (0,)))), True)
        self.assertIs(walls_hold(SILENT, 1, (((0,), (-1,)), ((-5,), (0,)))), False)
        self.assertIs(walls_hold(SILENT, 1, (((0,),), ((-5,), (0,), (0,)))), False)
        self.assertIs(walls_hold(HALF, 1, (((0, 0),), ((0, 1), (1, 0)))), True)
        self.assertIs(walls_hold(HALF, 1, (((0, 0),), ((0, 999999999999), (999999999999, 0)))), True)
        self.assertIs(walls_hold(HALF, 1, (((0, 0),), ((0, 1),))), False)
        self.assertIs(walls_hold(HALF, 1, (((0, 0),), ((1, 0),))), False)
        self.assertIs(walls_hold(HALF, 1, (((0, 0),), ((1, 1),))), False)
        self.assertIs(walls_hold(HALF, 1, (((-1, 0),), ((0, 1), (1, 0)))), False)
        self.assertIs(walls_hold(HALF, 1, ((), ())), False)
        self.assertIs(walls_hold(HALF, 1, (((0, 0),), ())), False)

    def test_all_that_is_reached(self):
        for game in small_games() + larger_games()[::3] + [THIRD, CIRCLE, SILENT_FOUR]:
            there = [many for many in range(1, 6) if first_by_all(game, many)]
            for many in range(1, 6):
                for told in [all_reached(game, many), highest_alone(all_reached(game, many))]:
                    self.assertIs(walls_hold(game, many, told), many not in there)
                    self.assertIs(bars_hold(game, many, told), not there or there[0] > many)

    def test_two_layers_with_many_sums(self):
        # The sums -k, k are needed all, for none is no less than another one.
        first = tuple(sorted((-k, k, -k, k) for k in range(2500)))
        columns = list(zip(*CIRCLE.rows))
        after = {tuple(a + b for a, b in zip(sums, column)) for sums in first for column in columns}
        after = tuple(sorted(sums for sums in after if min(sums) < 1))
        self.assertIs(walls_hold(CIRCLE, 1, (first, after)), True)
        for at in (0, 1, 2500, len(after) // 2, len(after) - 1):
            self.assertIs(walls_hold(CIRCLE, 1, (first, after[:at] + after[at + 1:])), False)
        put_up = tuple(sorted({(n[0], n[1] + 1, n[2], n[3] + 7) for n in after}))
        self.assertIs(walls_hold(CIRCLE, 1, (first, put_up)), True)
        self.assertIs(walls_hold(CIRCLE, 1, (first, tuple(sorted((a - 1, b, c, d) for a, b, c, d in after)))), False)

    def test_walls_for_others(self):
        told = walls(NOTHING, 3)
        self.assertIs(walls_hold(NOTHING, 3, told), True)
        self.assertIs(walls_hold(Game(((-1, -1), (-1, -1))), 3, told), True)
        self.assertIs(walls_hold(HALF, 3, told), False)
        self.assertIs(walls_hold(THIRD, 3, told), False)
        self.assertIs(walls_hold(ONE, 3, told), False)
        for many in (0, 1, 2, 4, 24, 25):
            self.assertIs(walls_hold(NOTHING, many, told), False)
            self.assertIs(bars_hold(NOTHING, many, told), False)


class ChangedAtOnePlace(Checks):
    def check(self, game, many, told):
        held = dropped = 0
        for value in changed_at_one_place(told):
            expected = by_the_words(game, many, value, many)
            self.assertIs(walls_hold(game, many, value), expected, (game.rows, many, value))
            self.assertIs(bars_hold(game, many, value), by_the_words(game, many, value, 1), (game.rows, many, value))
            held += expected
            dropped += not expected
        self.assertGreater(held, 0)
        self.assertGreater(dropped, held)

    def test_walls(self):
        for game, many in product([THIRD, CIRCLE, NOTHING, SILENT_FOUR, SILENT, WRONG, HALF], [1, 2, 3, 4]):
            if not first_by_all(game, many):
                self.check(game, many, walls(game, many))

    def test_bars(self):
        for game, many in [(THIRD, 2), (CIRCLE, 3), (NOTHING, 5), (WRONG, 9), (Game(PATIENT[0][0]), 4)]:
            self.check(game, many, bars(game, many))

    def test_plainest_walls(self):
        for game, many in [(THIRD, 2), (THIRD, 4), (NOTHING, 4), (Game(((1, -1, 0),)), 1), (HALF, 1)]:
            if not first_by_all(game, many):
                self.check(game, many, all_reached(game, many))

    def test_each_sums_is_needed_here(self):
        told = highest_alone(all_reached(CIRCLE, 3))
        for t, layer in enumerate(told):
            for k in range(len(layer)):
                self.assertIs(walls_hold(CIRCLE, 3, put(told, (t,), layer[:k] + layer[k + 1:])), False)
                for i, number in enumerate(layer[k]):
                    self.assertIs(walls_hold(CIRCLE, 3, put(told, (t, k, i), number - 1)), False)


class AnyValue(Checks):
    def test_any_value(self):
        for game in [ONE, WRONG, SILENT, THIRD, CIRCLE]:
            for value in never_right():
                for many in (1, 2, 24):
                    self.assertIs(walls_hold(game, many, value), False)
                    self.assertIs(bars_hold(game, many, value), False)
                self.assertIs(bars_hold(game, 64, value), False)

    def test_any_number(self):
        told = walls(WRONG, 1)
        for value in wrong_numbers() + never_right() + [0, 25, 65]:
            if type(value) is not int or value != 1:
                self.assertIs(walls_hold(WRONG, value, told), False)
                self.assertIs(walls_hold(WRONG, value, value), False)
            if type(value) is not int or not 1 <= value <= 64:
                self.assertIs(bars_hold(WRONG, value, told), False)
                self.assertIs(bars_hold(WRONG, value, value), False)

    def test_the_numbers_they_are_for(self):
        for many in range(70):
            told = (((0,),),) * (many + 1)
            self.assertIs(walls_hold(SILENT, many, told), 1 <= many <= 24)
            self.assertIs(bars_hold(SILENT, many, told), 1 <= many <= 64)

    def test_arguments_stay_as_they_are(self):
        value = [[[0]], [[0]]]
        self.assertIs(walls_hold(SILENT, 1, value), False)
        self.assertIs(bars_hold(SILENT, 1, value), False)
        self.assertEqual(value, [[[0]], [[0]]])


if __name__ == "__main__":
    unittest.main()
