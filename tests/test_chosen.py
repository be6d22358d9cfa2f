"""Chosen moves: that they do, which one is told of a move, and which lots of moves do."""

import random
import unittest

from examples import assert_raises, run_examples
from gapsame import chosen
from gapsame.chosen import are_chosen, chosen_for, chosen_moves
from gapsame.errors import BadMove, BadNumber, BadPosition, Misfit
from gapsame.games import Game
from gapsame.kinds import Kind
from gapsame.matching import is_matched
from gapsame.moves import done, may_go
from gapsame.positions import Position
from pairs import alike_pairs, telling_moves
from reference import ALL_LEAPS, AROUND, NO_LISTS, NO_MOVES, NO_POSITIONS, RIDES, bound_of, no_numbers, parts, some_position

EXAMPLES = """
>>> drop = Kind("drop", [], ["up"])
>>> shaft = Position(Game([drop], (None, None, None, 9), ("take", "drop")), [(0, "drop", 0, 0)])
>>> [are_chosen(shaft, 1, value) for value in ([((0, 0), (0, 9)), ((0, 0), (0, 3))], [[[0, 0], [0, 3]]], [((0, 0), (0, 9)), ((0, 0), (0, 8)), ((0, 0), (0, 1))], [((0, 0), (0, 9)), ((0, 0), (0, 3)), ((0, 0), (0, 10))], None)]
[True, False, True, False, False]
>>> moves, away = chosen_moves(near, 2), ((0, 0), (-10 ** 30, 0))
>>> [are_chosen(near, 2, moves), are_chosen(near, 2, ()), chosen_for(near, 2, away) in moves, is_matched(near, near, 2, away, chosen_for(position=near, m=2, move=away))]
[True, False, True, True]
>>> chosen_for(near, 2, ((8, 7), (8, 8)))
raises Misfit('move')
"""
FAR = 10 ** 40
CHIEF, RUNNER, AXE = Kind("chief", AROUND, (), True), Kind("runner", [], RIDES), Kind("axe", [(2, 1)])
GAME = Game([CHIEF, RUNNER, AXE], goal=("take", "runner"))
NEAR = Position(Game([CHIEF, RUNNER], goal=("take", "runner")), [(0, "runner", 0, 0), (1, "chief", 8, 7)])
SHAFT = Position(Game([Kind("drop", [], ["up"])], (None, None, None, 9), ("take", "drop")), [(0, "drop", 0, 0)])


def matches(position, m, move, other):
    """Whether one of two moves that may go is matched with the other one, as the document says it."""
    return move[0] == other[0] and parts(done(position, move), done(position, other), m - 1) is None


class Chosen(unittest.TestCase):
    def test_examples(self):
        run_examples(self, EXAMPLES, {"near": NEAR, "Kind": Kind, "Game": Game, "Position": Position, "is_matched": is_matched,
                                      **vars(chosen)})

    def assert_chosen(self, position, m, most=10):
        """That the chosen moves are unlike, ascending, may go, and do."""
        moves = chosen_moves(position, m)
        self.assertIsInstance(moves, tuple)
        self.assertEqual(list(moves), sorted(set(moves)))
        for move in moves:
            self.assertIs(may_go(position, move), True)
        self.assertEqual(chosen_moves(position=position, m=m), moves)
        self.assertIs(are_chosen(position, m, moves), True)
        self.assertIs(are_chosen(position, m, [[list(move[0]), list(move[1])] for move in moves[::-1]]), True)
        others = telling_moves(position, bound_of(position.game, m - 1) + 1)
        for move in self.chance.sample(others, min(len(others), most)):
            self.assertTrue(any(matches(position, m, move, there) for there in moves), (str(position), m, move))
            self.assert_chosen_for(position, m, move, moves)
        return moves

    def assert_chosen_for(self, position, m, move, moves):
        found = chosen_for(position, m, move)
        self.assertIn(found, moves)
        self.assertTrue(matches(position, m, move, found))
        self.assertIs(is_matched(position, position, m, move, found), True)
        self.assertEqual(chosen_for(position=position, m=m, move=[list(move[0]), list(move[1])]), found)

    def setUp(self):
        self.chance = random.Random(111)

    def test_some_positions(self):
        for m, leap, many in ((1, 1, 12), (1, 3, 7), (2, 1, 12), (2, 2, 7), (3, 1, 6), (4, 1, 4)):
            for one, other in alike_pairs(self.chance, many, m, leap):
                self.assert_chosen(one, m)
                self.assert_chosen(other, m)

    def test_near_fields(self):
        for _ in range(25):
            edges = [self.chance.choice([None, edge]) for edge in (0, 4, 0, 4)]
            position = some_position(self.chance, (range(5), range(5)), edges, 2)
            for m in (1, 2, 3, 4):
                self.assert_chosen(position, m)

    def test_each_of_the_telling_moves_is_matched_once(self):
        """Of moves that are not matched with one another each has its own chosen one."""
        for one, _ in alike_pairs(self.chance, 12, 2, 1, 3):
            moves, others = chosen_moves(one, 2), telling_moves(one, 5)
            for move in others[::3]:
                for other in others[::7]:
                    is_same = chosen_for(one, 2, move) == chosen_for(one, 2, other)
                    self.assertIs(is_same, matches(one, 2, move, other))
            self.assertTrue({chosen_for(one, 2, move) for move in others} == set(moves))

    def test_lots_with_one_move_changed(self):
        for one, _ in alike_pairs(self.chance, 20, 1, 2, 4):
            for m in (1, 2):
                moves = list(chosen_moves(one, m))
                others = telling_moves(one, bound_of(one.game, m - 1) + 2)
                for at in self.chance.sample(range(len(moves)), min(6, len(moves))):
                    rest = moves[:at] + moves[at + 1:]
                    needs = not any(matches(one, m, moves[at], move) for move in rest)
                    self.assertIs(are_chosen(one, m, rest), not needs)
                    self.assertIs(are_chosen(one, m, moves + [moves[at]]), False)
                    self.assertIs(are_chosen(one, m, moves + [[list(moves[at][0]), moves[at][1]]]), False)
                    for move in self.chance.sample(others, min(8, len(others))):
                        wanted = move not in rest and (not needs or matches(one, m, moves[at], move))
                        self.assertIs(are_chosen(one, m, rest + [move]), wanted)
                        self.assertIs(are_chosen(one, m, tuple([move] + rest)), wanted)
                        self.assertIs(are_chosen(one, m, moves + [move]), move not in moves)
                    for move in (*NO_MOVES[:8], ((FAR, FAR), (0, 0)), (moves[at][0], moves[at][0]), moves[at][0],
                                 (moves[at][0], (FAR + 1, FAR - 1))):
                        self.assertIs(are_chosen(one, m, moves + [move]), False)
                        self.assertIs(are_chosen(one, m, rest + [move]), False)

    def test_one_ride(self):
        for m, many in ((1, 2), (2, 4), (3, 8), (4, 16)):
            shaft = Position(Game(SHAFT.game.kinds, (None, None, None, FAR - 1), ("take", "drop")), [(0, "drop", 0, 0)])
            near = [((0, 0), (0, row)) for row in range(FAR - many + 1, FAR)]
            self.assertEqual(chosen_moves(shaft, m)[1:], tuple(near))
            for row in (1, 2, 3, FAR // 2, FAR - many):
                self.assertIs(are_chosen(shaft, m, near + [((0, 0), (0, row))]), True)
                self.assertIn(chosen_for(shaft, m, ((0, 0), (0, row)))[1][1], range(1, FAR - many + 1))
            self.assertIs(are_chosen(shaft, m, near), False)
            for at in range(len(near)):
                self.assertIs(are_chosen(shaft, m, [((0, 0), (0, 1))] + near[:at] + near[at + 1:]), False)
                self.assertEqual(chosen_for(shaft, m, near[at]), near[at])

    def test_only_the_first_square_is_far_from_all(self):
        for m, many in ((1, 2), (2, 4), (3, 8), (4, 16)):
            for ride, sign in (("right", 1), ("left", -1)):
                game = Game([Kind("sled", [], [ride])], goal=("take", "sled"))
                position = Position(game, [(0, "sled", 0, 0), (1, "sled", sign * (many + 1), 5)])
                self.assertIn(((0, 0), (sign, 0)), chosen_moves(position, m))
                self.assert_chosen(position, m, 99)

    def test_a_piece_alone(self):
        """All squares of one ride are matched with one another, and the ones of all other rides beside."""
        position = Position(Game([RUNNER], goal=("take", "runner")), [(0, "runner", 5, -FAR)])
        for m in (1, 2, 3, 4):
            self.assertEqual(len(chosen_moves(position, m)), 1)
            for end in ((6, -FAR), (FAR, -FAR), (4, -FAR), (5, 0), (5, -FAR - 1)):
                self.assertIs(are_chosen(position, m, [((5, -FAR), end)]), True)
                self.assertEqual(chosen_for(position, m, ((5, -FAR), end)), chosen_moves(position, m)[0])
            self.assertIs(are_chosen(position, m, [((5, -FAR), (6, -FAR + 1))]), False)

    def test_no_move_may_go(self):
        closed = Position(Game([CHIEF, AXE], (0, 0, 0, 0)), [(1, "chief", 0, 0)])
        barred = Position(Game([AXE, RUNNER], (0, 1, 0, 1), ("take", "axe")), [(0, "axe", 0, 0), (1, "runner", 1, 1)])
        for position in (closed, Position(closed.game, closed.pieces, (), 1), barred):
            for m in (1, 2, 3, 4):
                self.assertEqual(chosen_moves(position, m), ())
                self.assertIs(are_chosen(position, m, []), True)
                self.assertIs(are_chosen(position, m, ()), True)
                for value in ([((0, 0), (0, 0))], [((0, 0), (2, 1))], [()], None, {}, "", [None]):
                    self.assertIs(are_chosen(position, m, value), False)
                assert_raises(self, Misfit("move"), chosen_for, position, m, ((0, 0), (2, 1)))

    def test_many_far_pieces(self):
        """Seven pieces, three of them riding, and four stones, with the longest leaps, far apart and near."""
        kinds = [Kind("chief", ALL_LEAPS, (), True), Kind("rider", ALL_LEAPS, RIDES), Kind("hop", ALL_LEAPS)]
        game = Game(kinds, (-10 ** 59, 10 ** 59, 1 - 10 ** 59, 10 ** 50))
        pieces = [(1, "chief", 0, 0), (0, "chief", 30, 50), (0, "rider", 10 ** 30, 77), (0, "rider", -99, -10 ** 40),
                  (0, "rider", 160, 161), (0, "hop", 10 ** 20, 10 ** 20), (0, "hop", 200, 10 ** 19)]
        position = Position(game, pieces, [(300, 300), (-10 ** 30, 400), (500, -400), (-300, -300)])
        for m in (1, 2):
            moves = chosen_moves(position, m)
            self.assertIs(are_chosen(position, m, moves), True)
            self.assertIs(are_chosen(position, m, moves[1:]), False)
            self.assert_chosen_for(position, m, ((160, 161), (160, 10 ** 49)), moves)

    def test_what_is_passed_stays(self):
        moves, text = [[[0, 0], [5, 0]], ((0, 0), (0, 5))], str(NEAR)
        are_chosen(NEAR, 1, moves)
        chosen_for(NEAR, 1, moves[0])
        self.assertEqual((moves, str(NEAR)), ([[[0, 0], [5, 0]], ((0, 0), (0, 5))], text))


class Refused(unittest.TestCase):
    def test_positions_and_numbers(self):
        for value in NO_POSITIONS:
            for m in (1, None):
                assert_raises(self, BadPosition("position"), chosen_moves, value, m)
                assert_raises(self, BadPosition("position"), chosen_for, value, m, None)
                assert_raises(self, BadPosition("position"), are_chosen, value, m, None)
        for m in no_numbers(1, 4):
            assert_raises(self, BadNumber("m"), chosen_moves, NEAR, m)
            for value in (((0, 0), (1, 0)), None, ()):
                assert_raises(self, BadNumber("m"), chosen_for, NEAR, m, value)
                assert_raises(self, BadNumber("m"), are_chosen, NEAR, m, value)

    def test_moves(self):
        for m in (1, 4):
            for move in NO_MOVES:
                assert_raises(self, BadMove("move"), chosen_for, NEAR, m, move)
            for move in (((8, 7), (8, 8)), ((0, 0), (3, 3)), ((0, 0), (0, 0)), ((FAR, 0), (0, 0))):
                assert_raises(self, Misfit("move"), chosen_for, NEAR, m, move)

    def test_no_lists(self):
        for m in (1, 4):
            for value in (*NO_LISTS, [None], ["ab"], [0], [((0, 0),)], (0, 0), ((0, 0), (1, 0)), [[(0, 0), (1, 0), (2, 0)]]):
                self.assertIs(are_chosen(NEAR, m, value), False)


if __name__ == "__main__":
    unittest.main()
