"""Lines, gaps, what stands at which indexes, and positions laid on other lines."""

import random
import unittest
from itertools import product

from examples import assert_raises, run_examples
from gapsame import lines
from gapsame.errors import BadNumber, BadPosition
from gapsame.games import Game
from gapsame.kinds import Kind
from gapsame.lines import columns_of, gaps_of, laid, rows_of, stands_of
from gapsame.positions import Position
from reference import NO_LISTS, NO_POSITIONS, gaps_along, lines_of, some_position, stands_at, things_of

EXAMPLES = """
>>> chief, runner = Kind("chief", [(1, 0), (-1, 0), (0, 1), (0, -1)], (), True), Kind("runner", [], ["right", "left", "up", "down"])
>>> far = Position(Game([chief, runner]), [(1, "chief", 0, 0), (0, "runner", 10 ** 30, -1), (0, "runner", -10 ** 30, 1), (0, "runner", 7, 5)])
>>> [columns_of(far) == (-10 ** 30, 0, 7, 10 ** 30), rows_of(far), gaps_of(far) == ((10 ** 30, 7, 10 ** 30 - 7), (1, 1, 4))]
[True, (-1, 0, 1, 5), True]
>>> stands_of(far)
(((0, 'runner', 0, 2), (0, 'runner', 2, 3), (0, 'runner', 3, 0), (1, 'chief', 1, 1)), ())
>>> wall = Position(Game([chief, runner], (0, None, None, 50)), [(1, "chief", 0, 2), (0, "chief", 2, 2), (0, "runner", 9, 40)], [(30, 2)])
>>> [columns_of(wall), rows_of(wall), gaps_of(wall), stands_of(wall)[1]]
[(-1, 0, 2, 9, 30), (2, 40, 51), ((1, 2, 7, 21), (38, 11)), ((4, 0),)]
>>> other = laid(wall, (9, 10, 20, 30, 41), rows=[-5, 0, 1])
>>> [other.pieces, other.stones, other.game.edges, laid(other, columns_of(wall), rows_of(wall)) == wall]
[((0, 'chief', 20, -5), (0, 'runner', 30, 0), (1, 'chief', 10, -5)), ((41, -5),), (10, None, None, 0), True]
>>> laid(wall, (9, 10, 20, 20, 41), [-5, 0, 1])
raises BadNumber('columns')
>>> columns_of(far.pieces)
raises BadPosition('position')
"""
FAR = 10 ** 40
AXE = Kind("axe", [(0, 1)])
EDGES = list(product((None, 0), (None, 20), (None, 0), (None, 20)))


def axes(squares, edges=(None,) * 4, stones=()):
    """A position of axes on these squares."""
    return Position(Game([AXE], edges, ("take", "axe")), [(0, "axe", *square) for square in squares], stones)


class Lines(unittest.TestCase):
    def test_examples(self):
        run_examples(self, EXAMPLES, {"Kind": Kind, "Game": Game, "Position": Position, **vars(lines)})

    def assert_lines(self, position):
        """Compares all that is told of the lines with what the reference tells."""
        columns, rows = tuple(lines_of(position, 0)), tuple(lines_of(position, 1))
        self.assertEqual((columns_of(position), rows_of(position)), (columns, rows))
        self.assertEqual(gaps_of(position), (tuple(gaps_along(position, 0)), tuple(gaps_along(position, 1))))
        pieces, stones = stands_of(position)
        told = [(str((hand, name)), i, j) for hand, name, i, j in pieces] + [("stone", i, j) for i, j in stones]
        self.assertEqual(sorted(told), stands_at(position))
        self.assertEqual((list(pieces), list(stones)), (sorted(pieces), sorted(stones)))
        self.assertEqual([len(value) for value in stands_of(position)], [len(position.pieces), len(position.stones)])
        for value in (columns_of(position), rows_of(position), gaps_of(position), *gaps_of(position), stands_of(position), pieces, stones):
            self.assertIsInstance(value, tuple)
        return columns, rows

    def test_one_thing(self):
        position = axes([(7, -FAR)])
        self.assertEqual((columns_of(position), rows_of(position), gaps_of(position)), ((7,), (-FAR,), ((), ())))
        self.assertEqual(stands_of(position), (((0, "axe", 0, 0),), ()))
        position = axes([(7, 7)], (7, 7, 7, 9))
        self.assertEqual((columns_of(position), rows_of(position), gaps_of(position)), ((6, 7, 8), (6, 7, 10), ((1, 1), (1, 3))))

    def test_edges_at_any_sides(self):
        for edges in EDGES:
            position = axes([(5, 5), (5, 9)], edges, [(4, 4)])
            columns = ([] if edges[0] is None else [-1]) + [4, 5] + ([] if edges[1] is None else [21])
            rows = ([] if edges[2] is None else [-1]) + [4, 5, 9] + ([] if edges[3] is None else [21])
            self.assertEqual((columns_of(position), rows_of(position)), (tuple(columns), tuple(rows)))
            self.assert_lines(position)

    def test_gaps_near_and_far(self):
        for gap in (1, 2, 3, 100, FAR, 10 ** 59):
            position = axes([(0, 0), (gap, -gap)])
            self.assertEqual(gaps_of(position), ((gap,), (gap,)))
            self.assertEqual(stands_of(position)[0], ((0, "axe", 0, 1), (0, "axe", 1, 0)))
            self.assert_lines(position)

    def test_one_to_thirty_things(self):
        chance = random.Random(81)
        for many in range(1, 31):
            for edges in chance.sample(EDGES, 4):
                squares = chance.sample(list(product(range(21), repeat=2)), many)
                position = axes(squares[:16], edges, squares[16:])
                columns, rows = self.assert_lines(position)
                self.assertTrue(laid(position, columns, rows) == position)

    def test_laid_there_and_back(self):
        chance = random.Random(82)
        for _ in range(200):
            edges = [chance.choice([None, edge]) for edge in (-1, 9, -2, 7)]
            position = some_position(chance, (range(-1, 9), range(-2, 7)), edges)
            columns, rows = self.assert_lines(position)
            others = [sorted(chance.sample(range(-99, 99), len(told))) for told in (columns, rows)]
            for wide in (1, FAR):
                across, up = [[line * wide for line in other] for other in others]
                other = laid(position=position, columns=across, rows=tuple(up))
                self.assertEqual((columns_of(other), rows_of(other)), (tuple(across), tuple(up)))
                self.assertEqual(stands_of(other), stands_of(position))
                self.assertEqual((other.game.kinds == position.game.kinds, other.game.goal, other.turn),
                                 (True, position.game.goal, position.turn))
                self.assert_edges(other, edges, across, up)
                wanted = {(across[columns.index(i)], up[rows.index(j)]): thing for (i, j), thing in things_of(position).items()}
                self.assertEqual(things_of(other), wanted)
                self.assertTrue(laid(other, columns, list(rows)) == position)

    def assert_edges(self, position, edges, columns, rows):
        """That edges stand at the same sides, just beside their lines."""
        wanted = [columns[0] + 1, columns[-1] - 1, rows[0] + 1, rows[-1] - 1]
        for edge, before, place in zip(position.game.edges, edges, wanted):
            self.assertEqual(edge, None if before is None else place)

    def test_what_is_passed_stays(self):
        position, columns, rows = axes([(0, 0), (5, 9)]), [3, 4], [-7, 12]
        text = str(position)
        other = laid(position, columns, rows)
        columns[0], rows[0] = 99, 99
        self.assertEqual(str(position), text)
        self.assertEqual(other.pieces, ((0, "axe", 3, -7), (0, "axe", 4, 12)))


class Refused(unittest.TestCase):
    def test_positions(self):
        for value in NO_POSITIONS:
            for function in (columns_of, rows_of, gaps_of, stands_of):
                assert_raises(self, BadPosition("position"), function, value)
            for columns in ([0], None):
                assert_raises(self, BadPosition("position"), laid, value, columns, columns)

    def test_lines(self):
        position = axes([(0, 0), (5, 9), (6, 10)])
        bad = (*NO_LISTS, [], [1], [1, 2], [1, 2, 3, 4], [1, 1, 2], [1, 2, 2], [1, 3, 2], [3, 2, 1], [True, 2, 3], [0, True, 2],
               [1, 2, "3"], [1.0, 2, 3], [1, None, 3], [(1,), (2,), (3,)], [[1, 2, 3]], {1: 1, 2: 2, 3: 3}, iter([1, 2, 3]))
        for value in bad:
            for other in ([1, 2, 3], None, [3]):
                assert_raises(self, BadNumber("columns"), laid, position, value, other)
            assert_raises(self, BadNumber("rows"), laid, position, [1, 2, 3], value)
            assert_raises(self, BadNumber("rows"), laid, rows=value, columns=(-FAR, 2, FAR), position=position)

    def test_as_many_as_there_are(self):
        for edges in EDGES:
            position = axes([(5, 5)], edges)
            wide, high = [sum([edge is not None for edge in pair]) + 1 for pair in (edges[:2], edges[2:])]
            for many, tall in product(range(5), repeat=2):
                if (many, tall) == (wide, high):
                    laid(position, range_list(many), range_list(tall))
                else:
                    error = BadNumber("columns" if many != wide else "rows")
                    assert_raises(self, error, laid, position, range_list(many), range_list(tall))


def range_list(many):
    return list(range(many))


if __name__ == "__main__":
    unittest.main()
