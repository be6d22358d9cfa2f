"""Moves that are matched: in positions that are alike, both ways about, and in one position."""

import random
import unittest
from itertools import product

from examples import assert_raises, run_examples
from gapsame import matching
from gapsame.errors import BadMove, BadNumber, BadPosition, Misfit
from gapsame.games import Game
from gapsame.kinds import Kind
from gapsame.likeness import cut
from gapsame.lines import columns_of, rows_of
from gapsame.matching import is_matched, matched
from gapsame.moves import done, is_let, may_go
from gapsame.positions import Position, at
from pairs import alike_pairs, telling_moves
from reference import AROUND, NO_MOVES, NO_POSITIONS, RIDES, bound_of, no_numbers, parts

EXAMPLES = """
>>> lord, runner = Kind("chief", [(0, 1), (1, 1), (1, 0), (1, -1), (0, -1), (-1, -1), (-1, 0), (-1, 1)], (), True), Kind("runner", [], ["right", "left", "up", "down"])
>>> game = Game([lord, runner], goal=("take", "runner"))
>>> far, near = Position(game, [(0, "runner", 0, 0), (1, "chief", 10 ** 20, 7)]), Position(game, [(0, "runner", 0, 0), (1, "chief", 8, 7)])
>>> [matched(far, near, 2, ((0, 0), (10 ** 20 - 3, 0))), matched(near, far, 2, [[0, 0], [8, 0]]), matched(far, near, m=2, move=((0, 0), (0, 7)))]
[((0, 0), (5, 0)), ((0, 0), (100000000000000000000, 0)), ((0, 0), (0, 7))]
>>> [is_matched(far, near, 2, ((0, 0), (5, 0)), value) for value in (((0, 0), (4, 0)), ((0, 0), (-9, 0)), ((0, 0), (5, 0)), ((0, 0), (0, 4)), None)]
[True, True, False, False, False]
>>> matched(far, near, 3, ((0, 0), (0, 7)))
raises Misfit('other')
>>> matched(far, near, 2, ((0, 0), (3, 3)))
raises Misfit('move')
"""
FAR = 10 ** 40
CHIEF, RUNNER = Kind("chief", AROUND, (), True), Kind("runner", [], RIDES)
GAME = Game([CHIEF, RUNNER], goal=("take", "runner"))
LONE = Position(GAME, [(0, "runner", 0, 0), (1, "chief", FAR, 7)])
NEAR = Position(GAME, [(0, "runner", 0, 0), (1, "chief", 8, 7)])


class Matched(unittest.TestCase):
    def test_examples(self):
        run_examples(self, EXAMPLES, {"Kind": Kind, "Game": Game, "Position": Position, **vars(matching)})

    def assert_matched(self, one, other, m, move):
        """That the move that is told is one of the like piece, may go, and leaves the positions alike for m - 1."""
        found = matched(one, other, m, move)
        for value in (found, found[0], found[1]):
            self.assertIsInstance(value, tuple)
        self.assertEqual(columns_of(one).index(move[0][0]), columns_of(other).index(found[0][0]))
        self.assertEqual(rows_of(one).index(move[0][1]), rows_of(other).index(found[0][1]))
        self.assertIs(may_go(other, found), True)
        later, there = done(one, move), done(other, found)
        self.assertIs(parts(later, there, m - 1), None)
        self.assertIs(is_let(one, move), is_let(other, found))
        self.assertEqual(at(one, move[1]) is None, at(other, found[1]) is None)
        self.assertIs(is_matched(one, other, m, move, found), True)
        self.assertIs(is_matched(other, one, m, found, move), True)
        self.assertEqual(matched(one=one, other=other, m=m, move=[list(move[0]), list(move[1])]), found)
        return found

    def test_some_pairs(self):
        chance = random.Random(101)
        counts = []
        for m, leap in ((1, 1), (1, 2), (1, 3), (2, 1), (2, 3), (3, 1), (3, 2), (4, 1)):
            for one, other in alike_pairs(chance, 12, m, leap):
                self.assertIs(parts(one, other, m), None)
                moves = telling_moves(one, bound_of(one.game, m - 1) + 1)
                counts.append(len(moves))
                for move in chance.sample(moves, min(len(moves), 60)):
                    self.assert_matched(one, other, m, move)
        self.assertGreater(sum(counts), 2000)

    def test_the_greatest_number(self):
        chance = random.Random(102)
        for one, other in alike_pairs(chance, 8, 12, 1):
            for move in chance.sample(telling_moves(one, 3), 10) if len(telling_moves(one, 3)) > 9 else []:
                self.assert_matched(one, other, 12, move)
                self.assert_matched(one, one, 12, move)
                self.assert_matched(one, cut(one, 12), 12, move)
            many = bound_of(one.game, 11)
            position = Position(GAME, [(1, "chief", 0, 0), (0, "runner", 2 * many + 5, 9)])
            near = Position(GAME, [(1, "chief", 0, 0), (0, "runner", 9 * many, 9)])
            for column in (1, many - 1, many, many + 1, many + 5, many + 6, 2 * many + 4):
                self.assert_matched(position, near, 12, ((2 * many + 5, 9), (column, 9)))

    def test_in_one_position(self):
        chance = random.Random(103)
        for one, _ in alike_pairs(chance, 40, 2, 2):
            for move in telling_moves(one, 8)[::5]:
                self.assert_matched(one, one, 2, move)
                self.assertIs(is_matched(one, one, 2, move, move), True)

    def test_both_ways_about(self):
        chance = random.Random(104)
        for one, other in alike_pairs(chance, 25, 1, 1):
            ours, theirs = telling_moves(one, 3), telling_moves(other, 3)
            pairs = list(product(chance.sample(ours, min(12, len(ours))), chance.sample(theirs, min(12, len(theirs)))))
            for move, there in pairs:
                is_like = (columns_of(one).index(move[0][0]), rows_of(one).index(move[0][1])) == (
                    columns_of(other).index(there[0][0]), rows_of(other).index(there[0][1]))
                wanted = is_like and parts(done(one, move), done(other, there), 0) is None
                self.assertIs(is_matched(one, other, 1, move, there), wanted)
                self.assertIs(is_matched(other, one, 1, there, move), wanted)

    def test_at_the_bounds(self):
        """Of the squares of a row each one near to the chief's column has just one that is matched."""
        for m, many in ((1, 2), (2, 4), (3, 8), (4, 16)):
            for column in range(1, many):
                for sign in (1, -1):
                    move = ((0, 0), (FAR + sign * column, 0))
                    wide = Position(GAME, [(0, "runner", 0, 0), (1, "chief", 2 * many, 7)])
                    for to in range(-3 * many, 6 * many):
                        wanted = to == 2 * many + sign * column
                        self.assertIs(is_matched(LONE, wide, m, move, ((0, 0), (to, 0))), wanted)
            for column in (many, many + 1, FAR // 2):
                for to in range(-3 * many, 6 * many):
                    wanted = to != 0 and to <= 2 * many - many
                    self.assertIs(is_matched(LONE, wide, m, ((0, 0), (FAR - column, 0)), ((0, 0), (to, 0))), wanted)

    def test_beyond_all_lines(self):
        for far in (1, 3, 4, 5, FAR):
            for move in (((0, 0), (-far, 0)), ((0, 0), (0, -far)), ((0, 0), (0, 7 + far)), ((0, 0), (FAR + far, 0))):
                self.assert_matched(LONE, NEAR, 2, move)
        self.assertIs(is_matched(LONE, NEAR, 2, ((0, 0), (-1, 0)), ((0, 0), (-FAR, 0))), True)
        self.assertIs(is_matched(LONE, NEAR, 2, ((0, 0), (-1, 0)), ((0, 0), (FAR, 0))), False)
        self.assertIs(is_matched(LONE, NEAR, 2, ((0, 0), (0, 8)), ((0, 0), (0, 9))), False)
        self.assertIs(is_matched(LONE, NEAR, 2, ((0, 0), (0, 11)), ((0, 0), (0, FAR))), True)

    def test_any_value(self):
        move = ((0, 0), (FAR - 1, 0))
        self.assertIs(is_matched(LONE, NEAR, 2, move, ((0, 0), (7, 0))), True)
        self.assertIs(is_matched(LONE, NEAR, 2, [[0, 0], [FAR - 1, 0]], [[0, 0], [7, 0]]), True)
        self.assertIs(is_matched(value=[(0, 0), [7, 0]], move=move, m=2, other=NEAR, one=LONE), True)
        for value in (*NO_MOVES, ((8, 7), (8, 8)), ((0, 0), (7, 1)), ((1, 0), (7, 0)), ((0, 0), (0, 0)), ((0, 0), (8, 7)), move):
            self.assertIs(is_matched(LONE, NEAR, 2, move, value), False)

    def test_the_same_piece_goes(self):
        kind = Kind("axe", [(1, 0), (-1, 0)])
        position = Position(Game([kind], goal=("take", "axe")), [(0, "axe", 0, 0), (0, "axe", 2, 0)])
        self.assertIs(is_matched(position, position, 1, ((0, 0), (1, 0)), ((2, 0), (1, 0))), False)
        self.assertIs(is_matched(position, position, 1, ((0, 0), (1, 0)), ((0, 0), (1, 0))), True)

    def test_what_is_passed_stays(self):
        move, texts = [[0, 0], [5, 0]], (str(LONE), str(NEAR))
        matched(LONE, NEAR, 2, move)
        is_matched(LONE, NEAR, 2, move, move)
        self.assertEqual((move, str(LONE), str(NEAR)), ([[0, 0], [5, 0]], *texts))


class Refused(unittest.TestCase):
    def both(self, error, one, other, m, move):
        assert_raises(self, error, matched, one, other, m, move)
        for value in (move, None, ((0, 0), (1, 0))):
            assert_raises(self, error, is_matched, one, other, m, move, value)

    def test_each(self):
        move = ((0, 0), (5, 0))
        for value in NO_POSITIONS:
            self.both(BadPosition("one"), value, value, None, None)
            self.both(BadPosition("one"), value, NEAR, 2, move)
            self.both(BadPosition("other"), LONE, value, 0, None)
            self.both(BadPosition("other"), LONE, value, 2, move)
        for m in no_numbers(1, 12):
            self.both(BadNumber("m"), LONE, NEAR, m, move)
            self.both(BadNumber("m"), LONE, Position(GAME, LONE.pieces, (), 1), m, None)
        for value in NO_MOVES:
            self.both(BadMove("move"), LONE, NEAR, 2, value)
            self.both(BadMove("move"), LONE, Position(GAME, LONE.pieces, (), 1), 2, value)

    def test_other_ahead_of_move(self):
        wrong, right = ((0, 0), (3, 3)), ((0, 0), (5, 0))
        for m, move in product((1, 2, 3, 4, 12), (wrong, right)):
            wanted = Misfit("other") if m > 2 else Misfit("move") if move == wrong else None
            if wanted is not None:
                self.both(wanted, LONE, NEAR, m, move)
        for other in (Position(GAME, LONE.pieces, (), 1), Position(GAME, LONE.pieces[1:]), Position(GAME, LONE.pieces, [(1, 1)])):
            for move in (wrong, right):
                self.both(Misfit("other"), LONE, other, 1, move)
        for move in (((FAR, 7), (FAR, 8)), ((1, 0), (2, 0)), ((0, 0), (0, 0)), ((0, 0), (1, 1))):
            self.both(Misfit("move"), LONE, NEAR, 1, move)


if __name__ == "__main__":
    unittest.main()
