"""Positions turned, mirrored and moved, moves that go along, and what is the same of both."""

import random
import unittest
from itertools import product

from contests import FAR, some_contests, some_holds
from examples import assert_raises, run_examples
from gapsame import turns
from gapsame.errors import BadMove, BadNumber, BadPosition, BadWords
from gapsame.games import Game
from gapsame.kinds import Kind
from gapsame.lines import columns_of, rows_of
from gapsame.moves import done, is_held, is_let, is_still, may_go, reached
from gapsame.positions import Position
from gapsame.strikes import struck
from gapsame.turns import gone_along, mirrored, moved, turned
from gapsame.wins import is_won
from mirrors import WAYS, along, move_along, shifted
from pairs import telling_moves
from reference import NO_LISTS, NO_MOVES, NO_POSITIONS, some_position

EXAMPLES = """
>>> runner, hopper = Kind("runner", [], ["right", "up"]), Kind("hopper", [(2, 1)])
>>> game = Game([runner, hopper], (0, None, -3, None), ("reach", "left", "runner"))
>>> position = Position(game, [(0, "runner", 4, 7), (1, "hopper", 0, -3)], [(2, 2)])
>>> other = turned(position)
>>> [other.pieces, other.stones, other.game.edges, other.game.goal]
[((0, 'runner', -7, 4), (1, 'hopper', 3, 0)), ((-2, 2),), (None, 3, 0, None), ('reach', 'low', 'runner')]
>>> [[(kind.name, kind.leaps, kind.rides) for kind in other.game.kinds], turned(turned(turned(other))) == position]
[[('hopper', ((-1, 2),), ()), ('runner', (), ('left', 'up'))], True]
>>> [mirrored(position).game.edges, mirrored(position).pieces, mirrored(mirrored(position)) == position, moved(position, 10 ** 40, -1).game.edges[0] == 10 ** 40]
[(None, 0, -3, None), ((0, 'runner', -4, 7), (1, 'hopper', 0, -3)), True, True]
>>> [gone_along(((4, 7), (5, 7)), "turned"), gone_along([[4, 7], [5, 7]], "mirrored"), gone_along(((4, 7), (5, 7)), how="moved", up=-1)]
[((-7, 4), (-7, 5)), ((-4, 7), (-5, 7)), ((4, 6), (5, 6))]
>>> gone_along(((4, 7), (5, 7)), "left")
raises BadWords('how')
"""
NO_INTEGERS = (None, True, False, "0", 0.0, 1.5, [], (1,), [1], {}, b"1", object())
BOX = Position(Game([Kind("axe", [(3, -1)], ["up", "right"]), Kind("chief", [(0, 1), (-2, 3)], (), True)],
                    (-1, 7, -2, 9), ("reach", "high", "axe")),
               [(0, "axe", -1, 9), (1, "chief", 7, -2)], [(0, 0), (3, -1)], 1)


def some_positions(many):
    """Some positions of all kinds, edges and goals, near and far."""
    chance, found = random.Random(701), []
    for _ in range(many):
        edges = [chance.choice([None, edge]) for edge in (-1, 5, 0, 6)]
        found.append(some_position(chance, (range(-1, 6), range(7)), edges))
        found.append(some_position(chance, [(-FAR, 0, 1, 5, FAR), (-9, 0, 1, 2, FAR)]))
    return found


def ways_of(position):
    """The position gone along each way, with what takes a move along."""
    yield turned(position), lambda move: gone_along(move, "turned")
    yield mirrored(position), lambda move: gone_along(move, "mirrored")
    for across, up in ((3, -2), (FAR, 10 ** 59), (0, 0)):
        yield moved(position, across, up), lambda move, way=(across, up): gone_along(move, "moved", *way)


class Turns(unittest.TestCase):
    @classmethod
    def setUpClass(cls):
        cls.positions = [*some_positions(40), BOX]

    def test_examples(self):
        run_examples(self, EXAMPLES, {"Kind": Kind, "Game": Game, "Position": Position, **vars(turns)})

    def test_as_told_once_more(self):
        for position in self.positions:
            self.assertTrue(turned(position) == along(position, "turned"))
            self.assertTrue(mirrored(position=position) == along(position, "mirrored"))
            for across, up in ((5, -7), (FAR, 0), (0, -FAR), (0, 0)):
                self.assertTrue(moved(position, across, up) == shifted(position, across, up))
                self.assertTrue(moved(up=up, across=across, position=position) == shifted(position, across, up))

    def test_there_and_back(self):
        for position in self.positions:
            text = str(position)
            self.assertTrue(turned(turned(turned(turned(position)))) == position)
            self.assertTrue(mirrored(mirrored(position)) == position)
            self.assertTrue(moved(moved(position, 7, -FAR), -7, FAR) == position)
            self.assertTrue(mirrored(turned(mirrored(turned(position)))) == position)
            self.assertTrue(moved(position, 0, 0) == position)
            self.assertEqual(str(position), text)
            self.assertTrue(Position.read(str(turned(position))) == turned(position))

    def test_each_part(self):
        other = turned(BOX)
        self.assertEqual(other.pieces, ((0, "axe", -9, -1), (1, "chief", 2, 7)))
        self.assertEqual((other.stones, other.game.edges, other.turn), (((0, 0), (1, 3)), (-9, 2, -1, 7), 1))
        self.assertEqual([(kind.name, kind.leaps, kind.rides, kind.is_lord) for kind in other.game.kinds],
                         [("axe", ((1, 3),), ("left", "up"), False), ("chief", ((-3, -2), (-1, 0)), (), True)])
        other = mirrored(BOX)
        self.assertEqual(other.pieces, ((0, "axe", 1, 9), (1, "chief", -7, -2)))
        self.assertEqual((other.stones, other.game.edges, other.turn), (((-3, -1), (0, 0)), (-7, 1, -2, 9), 1))
        self.assertEqual([(kind.leaps, kind.rides) for kind in other.game.kinds],
                         [(((-3, -1),), ("left", "up")), (((0, 1), (2, 3)), ())])
        other = moved(BOX, 10, -1)
        self.assertEqual((other.pieces, other.stones), (((0, "axe", 9, 8), (1, "chief", 17, -3)), ((10, -1), (13, -2))))
        self.assertEqual((other.game.edges, other.game.goal, other.turn), ((9, 17, -3, 8), BOX.game.goal, 1))
        self.assertTrue(other.game.kinds == BOX.game.kinds)

    def test_sides_of_goals(self):
        kind, after = Kind("axe", [], ["up"]), {"left": "low", "low": "right", "right": "high", "high": "left"}
        for side, wanted in after.items():
            position = Position(Game([kind], (0, 9, 0, 9), ("reach", side, "axe")), [(0, "axe", 5, 5)])
            self.assertEqual(turned(position).game.goal, ("reach", wanted, "axe"))
            self.assertEqual(mirrored(position).game.goal[1], {"left": "right", "right": "left"}.get(side, side))
            self.assertEqual(moved(position, 3, 3).game.goal[1], side)
        for at, edges in enumerate(((0, None, None, None), (None, 0, None, None), (None, None, 0, None),
                                    (None, None, None, 0))):
            position = Position(Game([kind], edges, ("take", "axe")), [(0, "axe", 0, 0)])
            self.assertEqual(turned(position).game.edges.index(0), (2, 3, 1, 0)[at])
            self.assertEqual(mirrored(position).game.edges.index(0), (1, 0, 2, 3)[at])
            self.assertEqual((turned(position).game.goal, mirrored(position).game.goal), (("take", "axe"),) * 2)

    def test_moves_that_went_along(self):
        for position in self.positions[::2]:
            moves = telling_moves(position, 2)[::3] + [(piece[2:], (0, 0)) for piece in position.pieces]
            for other, to in ways_of(position):
                self.assertEqual((is_held(other), is_still(other), reached(other)),
                                 (is_held(position), is_still(position), reached(position)))
                for move in moves:
                    there = to(move)
                    self.assertIs(may_go(other, there), may_go(position, move))
                    self.assertIs(is_let(other, there), is_let(position, move))
                    self.assertIs(struck(other, there[1], 1), struck(position, move[1], 1))
                    if may_go(position, move):
                        self.assertIs(reached(done(other, there)), reached(done(position, move)))

    def test_won_alike(self):
        chance, counts = random.Random(702), [0, 0]
        positions = some_contests(chance, 40, 3, (1, 1, 2, 8, FAR)) + some_holds(chance, 25, (0, 1, 2, 9, FAR))
        for position in positions:
            for n in (1, 2):
                wanted = is_won(position, n)
                counts[wanted] += 1
                for other, _ in list(ways_of(position))[:3]:
                    self.assertIs(is_won(other, n), wanted)
                self.assertIs(is_won(turned(mirrored(turned(position))), n), wanted)
        self.assertGreater(min(counts), 10)

    def test_lines(self):
        for position in self.positions:
            columns, rows = columns_of(position), rows_of(position)
            self.assertEqual((columns_of(turned(position)), rows_of(turned(position))),
                             (tuple([-row for row in rows[::-1]]), columns))
            self.assertEqual((columns_of(mirrored(position)), rows_of(mirrored(position))),
                             (tuple([-column for column in columns[::-1]]), rows))


class Along(unittest.TestCase):
    def test_moves(self):
        for column, row in product((-FAR, -1, 0, 5), (-7, 0, FAR)):
            for move in (((column, row), (row, 3)), ((0, 0), (column, row)), ((column, row), (column, row))):
                self.assertEqual(gone_along(move, "turned"), move_along(move, "turned"))
                self.assertEqual(gone_along([list(square) for square in move], "mirrored"),
                                 move_along(move, "mirrored"))
                for across, up in ((0, 0), (3, 0), (0, -4), (FAR, -FAR)):
                    there = tuple([(square[0] + across, square[1] + up) for square in move])
                    self.assertEqual(gone_along(move, "moved", across, up), there)
                    self.assertEqual(gone_along(up=up, across=across, how="moved", move=move), there)
                    # They count for "moved" alone.
                    self.assertEqual(gone_along(move, "turned", across, up), move_along(move, "turned"))
                    self.assertEqual(gone_along(move, "mirrored", across, up), move_along(move, "mirrored"))
                self.assertEqual(gone_along(move, "moved"), move)
                self.assertEqual(gone_along(move, "moved", 2), tuple([(square[0] + 2, square[1]) for square in move]))

    def test_all_ways(self):
        self.assertLessEqual({"turned", "mirrored"}, set(WAYS))
        move = ((1, 2), (3, 4))
        for how in ("turned", "mirrored", "moved"):
            value = gone_along([[1, 2], [3, 4]], how, 0, 0)
            self.assertEqual([type(part) for part in (value, *value)], [tuple] * 3)
        for _ in range(4):
            move = gone_along(move, "turned")
        self.assertEqual(move, ((1, 2), (3, 4)))


class Refused(unittest.TestCase):
    def test_positions(self):
        for value in NO_POSITIONS:
            assert_raises(self, BadPosition("position"), turned, value)
            assert_raises(self, BadPosition("position"), mirrored, value)
            for across in (0, None):
                assert_raises(self, BadPosition("position"), moved, value, across, None)

    def test_numbers(self):
        for value in NO_INTEGERS:
            for other in (0, None):
                assert_raises(self, BadNumber("across"), moved, BOX, value, other)
                assert_raises(self, BadNumber("across"), gone_along, ((0, 0), (0, 1)), "moved", value, other)
            assert_raises(self, BadNumber("up"), moved, BOX, 0, value)
            assert_raises(self, BadNumber("up"), gone_along, ((0, 0), (0, 1)), "moved", 0, value)
            assert_raises(self, BadNumber("up"), gone_along, ((0, 0), (0, 1)), "moved", up=value)

    def test_moves_and_words(self):
        for value in NO_MOVES:
            for how in ("turned", "moved", "left", None):
                assert_raises(self, BadMove("move"), gone_along, value, how, None, None)
        for how in (*NO_LISTS, [], (), "left", "Turned", "turned ", "move", ["turned"], ("moved",)):
            for across in (0, None):
                assert_raises(self, BadWords("how"), gone_along, ((0, 0), (0, 1)), how, across, None)


if __name__ == "__main__":
    unittest.main()
