"""Of positions that are mirrored, turned, exchanged or shifted the same is told, gone along."""

import random
import unittest
from itertools import product

from gapsame.chosen import are_chosen, chosen_moves
from gapsame.likeness import alike, cut
from gapsame.lines import columns_of, gaps_of, rows_of
from gapsame.matching import is_matched, matched
from gapsame.moves import done, goes, is_held, is_let, is_still, may_go, reached
from gapsame.positions import Position, lord_at
from gapsame.strikes import strikers
from mirrors import WAYS, along, move_along, shifted
from reference import moves_of, some_position

FAR = 10 ** 40


class Mirrors(unittest.TestCase):
    def setUp(self):
        chance = random.Random(71)
        self.positions = []
        for _ in range(40):
            edges = [chance.choice([None, edge]) for edge in (-1, 5, 0, 6)]
            self.positions.append(some_position(chance, (range(-1, 6), range(7)), edges))
        for _ in range(20):
            self.positions.append(some_position(chance, [(-FAR, 0, 1, 5, FAR), (-9, 0, 1, 2, FAR)]))

    def each(self):
        for position, way in product(self.positions, WAYS):
            yield position, way, along(position, way)

    def test_four_quarters_lead_back(self):
        for position in self.positions:
            self.assertTrue(along(along(position, "mirrored"), "mirrored") == position)
            self.assertTrue(along(along(along(along(position, "turned"), "turned"), "turned"), "turned") == position)

    def test_strikers(self):
        for position, way, other in self.each():
            to = WAYS[way][0]
            squares = [piece[2:] for piece in position.pieces] + list(product(range(-2, 3), repeat=2))
            for square, hand in product(squares, (0, 1)):
                wanted = sorted([to(*start) for start in strikers(position, square, hand)])
                self.assertEqual(list(strikers(other, to(*square), hand)), wanted)

    def test_moves(self):
        for position, way, other in self.each():
            self.assertEqual((is_held(position), is_still(position), reached(position)),
                             (is_held(other), is_still(other), reached(other)))
            for hand in (0, 1):
                lord = lord_at(position, hand)
                self.assertEqual(lord_at(other, hand), None if lord is None else WAYS[way][0](*lord))
            for move in moves_of(position, 3):
                there = move_along(move, way)
                self.assertIs(may_go(other, there), True)
                self.assertIs(is_let(other, there), is_let(position, move))
                self.assertTrue(done(other, there) == along(done(position, move), way))

    def test_goes(self):
        for position, way, other in self.each():
            to, _, rides = WAYS[way]
            for hand, _, column, row in position.pieces:
                if hand == position.turn:
                    leaps, last = goes(position, (column, row))
                    there = goes(other, to(column, row))
                    self.assertEqual(list(there[0]), sorted([to(*square) for square in leaps]))
                    wanted = {rides[ride]: None if square is None else to(*square) for ride, square in last}
                    self.assertEqual(dict(there[1]), wanted)

    def test_shifted(self):
        for position in self.positions:
            other = shifted(position, FAR, -7)
            self.assertEqual((is_held(position), is_still(position), reached(position)),
                             (is_held(other), is_still(other), reached(other)))
            self.assertEqual(gaps_of(position), gaps_of(other))
            self.assertTrue(alike(position, other, 12))
            self.assertTrue(cut(position, 4) == cut(other, 4))
            for start, end in moves_of(position, 3):
                there = tuple([(column + FAR, row - 7) for column, row in (start, end)])
                self.assertEqual(matched(position, other, 5, (start, end)), there)
                self.assertIs(is_let(other, there), is_let(position, (start, end)))

    def test_lines(self):
        for position in self.positions:
            mirrored, exchanged = along(position, "mirrored"), along(position, "exchanged")
            self.assertEqual(columns_of(mirrored), tuple([-line for line in columns_of(position)[::-1]]))
            self.assertEqual(rows_of(mirrored), rows_of(position))
            self.assertEqual((columns_of(exchanged), rows_of(exchanged)), (rows_of(position), columns_of(position)))
            self.assertEqual(gaps_of(exchanged), gaps_of(position)[::-1])

    def test_cut_and_matched(self):
        for position, way, other in self.each():
            for m in (0, 2):
                self.assertTrue(alike(along(cut(position, m), way), cut(other, 0), 0))
                self.assertTrue(shifted_to_0(along(cut(position, m), way)) == cut(other, m))
            near, there = cut(position, 2), along(cut(position, 2), way)
            for move in moves_of(position, 3):
                found = move_along(matched(position, near, 2, move), way)
                self.assertTrue(is_matched(other, there, 2, move_along(move, way), found))

    def test_chosen(self):
        for position, way, other in self.each():
            moves = [move_along(move, way) for move in chosen_moves(position, 2)]
            self.assertTrue(are_chosen(other, 2, moves))
            self.assertEqual(len(moves), len(chosen_moves(other, 2)))


def shifted_to_0(position: Position):
    """The position with its least lines at 0."""
    return shifted(position, -columns_of(position)[0], -rows_of(position)[0])


if __name__ == "__main__":
    unittest.main()
