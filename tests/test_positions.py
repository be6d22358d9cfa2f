"""Positions: how they are made, what is refused, in which order, and what stands where."""

import unittest
from itertools import permutations, product

from examples import assert_raises, run_examples
from gapsame import positions
from gapsame.errors import BadGame, BadNumber, BadPosition, BadSquare, Misfit
from gapsame.games import Game
from gapsame.kinds import Kind
from gapsame.positions import Position, at, lord_at
from reference import AROUND, NO_LISTS, NO_POSITIONS, NO_SQUARES, no_numbers

EXAMPLES = """
>>> far = Position(plain, [[1, "chief", 0, 0], (0, "runner", 10 ** 30, -1), (0, "runner", -10 ** 30, 1), (0, "runner", 7, 5)], [(3, 5)])
>>> [far.pieces[0], far.pieces[3], far.stones, far.turn]
[(0, 'runner', -1000000000000000000000000000000, 1), (1, 'chief', 0, 0), ((3, 5),), 0]
>>> [at(far, (7, 5)), at(far, [3, 5]), at(far, (0, 1)), lord_at(far, 1), lord_at(far, 0)]
[(0, 'runner', 7, 5), 'stone', None, (0, 0), None]
>>> small = Position(walled, [(0, "runner", 4, 7), (1, "hopper", 0, -3)], turn=1)
>>> str(small).split("\\n")[5:]
['goal reach left runner', 'turn 1', 'piece 0 runner 4 7', 'piece 1 hopper 0 -3']
>>> [Position.read(str(small)) == small, Position.read(str(far)) == far, small == Position(walled, small.pieces)]
[True, True, False]
>>> Position(walled, [(0, "runner", -1, 0)], [(0, 9)])
raises Misfit('pieces')
>>> Position(plain, [(0, "chief", 0, 0)])
raises Misfit('pieces')
>>> Position(plain, [(1, "chief", 0, 0)], [(0, 0)])
raises Misfit('stones')
>>> Position(plain, [(1, "hopper", 0, 0)])
raises BadPosition('pieces')
>>> Position.read(str(small) + "\\npiece 1 hopper 0 -3")
raises BadText(9, 4)
>>> Position.read(str(small) + "\\nstone 0 x")
raises BadText(9, 2)
"""
CHIEF, AXE, KING = Kind("chief", AROUND, (), True), Kind("axe", [(1, 2)]), Kind("king", AROUND, (), True)
RUNNER, HOPPER = Kind("runner", [], ["right", "left", "up", "down"]), Kind("hopper", [(2, 1), (-1, 2)])
PLAIN = Game([RUNNER, CHIEF])
WALLED = Game((HOPPER, RUNNER), [0, None, -3, 8], ["reach", "left", "runner"])
FREE = Game([CHIEF, AXE, KING], goal=("take", "axe"))
BOXED = Game([CHIEF, AXE, KING], (-2, 3, 5, 10 ** 40), ("take", "axe"))
HELD = Game([CHIEF, AXE, KING])
ONE = (0, "axe", 0, 0)
BAD_PIECES = (*NO_LISTS, [], (), [None], ["axe"], ONE, [0, "axe", 0, 0], [[]], [(0, "axe", 0)], [(0, "axe", 0, 0, 0)],
              [(2, "axe", 0, 0)], [(-1, "axe", 0, 0)], [(True, "axe", 0, 0)], [(False, "axe", 0, 0)], [("0", "axe", 0, 0)],
              [(None, "axe", 0, 0)], [(0, "bow", 0, 0)], [(0, "", 0, 0)], [(0, None, 0, 0)], [(0, ["axe"], 0, 0)],
              [(0, AXE, 0, 0)], [(0, "stone", 0, 0)], [(0, "axe", True, 0)], [(0, "axe", 0, False)], [(0, "axe", 0.0, 0)],
              [(0, "axe", "0", 0)], [(0, "axe", 0, None)], [(0, "axe", (0, 0))], [ONE, None], [ONE, (0, "axe", 1)],
              [(0, "axe", column, 0) for column in range(17)], {ONE}, {ONE: 1}, iter([ONE]), [{0, "axe", 1, 2}],
              [(0, "axe", 0, 0)] * 17, [(0.0, "axe", 0, 0)])
BAD_STONES = (*NO_LISTS, [None], [0, 0], (1, 2), [[]], [(0,)], [(0, 0, 0)], [(True, 0)], [(0, "0")], [(0, 1), None],
              [(column, 1) for column in range(17)], [(0, 1)] * 17, {(0, 1)}, iter([(0, 1)]), [ONE], "stone", ["stone"])


class Made(unittest.TestCase):
    def test_examples(self):
        run_examples(self, EXAMPLES, {"plain": PLAIN, "walled": WALLED, **vars(positions)})

    def assert_position(self, position, pieces, stones, turn):
        self.assertEqual((position.pieces, position.stones, position.turn), (pieces, stones, turn))
        for values in (position.pieces, position.stones):
            self.assertIsInstance(values, tuple)
            for value in values:
                self.assertIsInstance(value, tuple)

    def test_by_place_and_by_name(self):
        self.assert_position(Position(FREE, [ONE]), (ONE,), (), 0)
        self.assert_position(Position(FREE, (list(ONE),), [[1, 2]], 1), (ONE,), ((1, 2),), 1)
        self.assert_position(Position(turn=1, stones=((1, 2),), pieces=[ONE], game=FREE), (ONE,), ((1, 2),), 1)
        self.assertTrue(Position(FREE, [ONE]).game == FREE)

    def test_in_any_order(self):
        pieces = ((0, "axe", -7, 4), (0, "axe", 3, -2), (0, "chief", -9, 0), (1, "axe", -8, 10 ** 40))
        stones = ((-1, 5), (-1, 6), (0, -10 ** 40))
        for order in permutations(range(4)):
            given = [list(pieces[i]) for i in order]
            self.assert_position(Position(FREE, given, [stones[i] for i in order if i < 3]), pieces, stones, 0)

    def test_numbers_of_things(self):
        for many in range(1, 17):
            for stones in (0, 1, 16):
                position = Position(FREE, [(i % 2, "axe", i, 0) for i in range(many)], [(i, 1) for i in range(stones)])
                self.assertEqual((len(position.pieces), len(position.stones)), (many, stones))

    def test_changed_afterwards(self):
        piece, stone = [0, "axe", 0, 0], [1, 2]
        pieces, stones = [piece], [stone]
        position = Position(FREE, pieces, stones)
        piece[2], stone[0] = 9, 9
        pieces.append((1, "axe", 3, 3))
        stones.append((4, 4))
        self.assert_position(position, (ONE,), ((1, 2),), 0)
        self.assertEqual([at(position, square) for square in ((0, 0), (1, 2), (9, 0), (9, 2), (3, 3), (4, 4))],
                         [ONE, "stone", None, None, None, None])

    def test_what_is_passed_does_not_change(self):
        pieces, stones = [[1, "axe", 5, 5], [0, "axe", 0, 0]], [[3, 3], (1, 2)]
        Position(FREE, pieces, stones)
        self.assertEqual((pieces, stones), ([[1, "axe", 5, 5], [0, "axe", 0, 0]], [[3, 3], (1, 2)]))


class Refused(unittest.TestCase):
    def test_games(self):
        for game in (None, "game", AXE, [AXE], Game, (), Position(FREE, [ONE])):
            assert_raises(self, BadGame("game"), Position, game, [ONE])

    def test_pieces(self):
        for pieces in BAD_PIECES:
            with self.subTest(pieces=pieces):
                assert_raises(self, BadPosition("pieces"), Position, FREE, pieces)

    def test_stones(self):
        for stones in BAD_STONES:
            with self.subTest(stones=stones):
                assert_raises(self, BadPosition("stones"), Position, FREE, [ONE], stones)

    def test_turn(self):
        for turn in no_numbers(0, 1):
            assert_raises(self, BadNumber("turn"), Position, FREE, [ONE], (), turn)

    def test_pieces_that_do_not_fit(self):
        for pieces in ([ONE, ONE], [ONE, (1, "axe", 0, 0)], [ONE, (0, "chief", 0, 0)],
                       [(0, "chief", 0, 0), (0, "chief", 1, 0)], [(1, "chief", 0, 0), (1, "king", 1, 0)],
                       [(0, "king", 5, 5), ONE, (0, "chief", 1, 0)], [ONE, (0, "axe", 1, 1), (1, "axe", 1, 1)]):
            assert_raises(self, Misfit("pieces"), Position, FREE, pieces)
        Position(FREE, [(0, "chief", 0, 0), (1, "chief", 1, 0), (0, "axe", 0, 1)])
        Position(FREE, [(0, "king", 0, 0), (1, "chief", 1, 0)])

    def test_beyond_edges(self):
        for square in ((-2, 5), (3, 5), (3, 10 ** 40), (-2, 10 ** 40), (0, 9)):
            Position(BOXED, [(0, "axe", *square)])
            Position(BOXED, [(0, "axe", 1, 7)], [square])
            assert_raises(self, Misfit("stones"), Position, BOXED, [(0, "axe", *square)], [square])
        for square in ((-3, 5), (4, 5), (0, 4), (0, 10 ** 40 + 1), (-3, 4), (10 ** 40, 10 ** 40)):
            assert_raises(self, Misfit("pieces"), Position, BOXED, [(0, "axe", *square)])
            assert_raises(self, Misfit("pieces"), Position, BOXED, [(0, "axe", 1, 7), (1, "axe", *square)])
            assert_raises(self, Misfit("stones"), Position, BOXED, [(0, "axe", 1, 7)], [square])
            assert_raises(self, Misfit("stones"), Position, BOXED, [(0, "axe", 1, 7)], [(0, 9), square])

    def test_a_lord_of_hand_1(self):
        for pieces in ([ONE], [(0, "chief", 0, 0)], [(0, "king", 0, 0), (1, "axe", 1, 1)]):
            assert_raises(self, Misfit("pieces"), Position, HELD, pieces)
            Position(FREE, pieces)
            Position(HELD, pieces + [(1, "chief", 5, 5)])

    def test_stones_that_do_not_fit(self):
        for stones in ([(1, 1), (1, 1)], [(1, 1), [1, 1]], [(0, 0)], [(2, 2), (0, 0)], [(3, 3), (1, 2), (3, 3)]):
            assert_raises(self, Misfit("stones"), Position, FREE, [ONE], stones)

    def test_which_is_due_first(self):
        due = (BadGame("game"), BadPosition("pieces"), BadPosition("stones"), BadNumber("turn"))
        for bent in product((True, False), repeat=4):
            wrong, right = (None, [], [None], 2), (FREE, [ONE, ONE], [(0, 0)], 1)
            values = [bad if is_bent else good for bad, good, is_bent in zip(wrong, right, bent)]
            error = due[bent.index(True)] if any(bent) else Misfit("pieces")
            assert_raises(self, error, Position, *values)
        assert_raises(self, BadPosition("pieces"), Position, FREE, [ONE, ONE, (0, "bow", 0, 0)])
        assert_raises(self, BadPosition("stones"), Position, FREE, [ONE, ONE], [(0, 0), (0, 0, 0)])
        assert_raises(self, BadNumber("turn"), Position, BOXED, [ONE], [(90, 90)], True)
        assert_raises(self, Misfit("pieces"), Position, BOXED, [ONE], [(90, 90)], 1)


class Told(unittest.TestCase):
    def setUp(self):
        self.position = Position(BOXED, [(0, "axe", -2, 5), (1, "axe", 3, 10 ** 40), (1, "king", 0, 6)], [(1, 8), (3, 5)], 1)

    def test_at(self):
        for square, wanted in (((-2, 5), (0, "axe", -2, 5)), ((3, 10 ** 40), (1, "axe", 3, 10 ** 40)), ((1, 8), "stone"),
                               ((0, 6), (1, "king", 0, 6)), ((3, 5), "stone"), ((0, 7), None), ((-3, 5), None),
                               ((3, 10 ** 40 + 1), None), ((-10 ** 50, -10 ** 50), None), ((5, -2), None)):
            self.assertEqual(at(self.position, square), wanted)
            self.assertEqual(at(square=list(square), position=self.position), wanted)

    def test_lord_at(self):
        self.assertEqual([lord_at(self.position, 0), lord_at(self.position, 1)], [None, (0, 6)])
        both = Position(FREE, [(1, "king", 0, 6), (0, "chief", 2, 10 ** 40)])
        self.assertEqual([lord_at(both, 0), lord_at(hand=1, position=both)], [(2, 10 ** 40), (0, 6)])

    def test_refused(self):
        for value in NO_POSITIONS:
            for other in ((0, 0), None):
                assert_raises(self, BadPosition("position"), at, value, other)
            for other in (0, None):
                assert_raises(self, BadPosition("position"), lord_at, value, other)
        for square in NO_SQUARES:
            assert_raises(self, BadSquare("square"), at, self.position, square)
        for hand in no_numbers(0, 1):
            assert_raises(self, BadNumber("hand"), lord_at, self.position, hand)


class Equal(unittest.TestCase):
    def test_equal(self):
        position = Position(FREE, [ONE, (1, "axe", 5, 5)], [(3, 3), (1, 2)], 1)
        for other in (position, Position(FREE, position.pieces[::-1], position.stones[::-1], 1),
                      Position(Game((KING, AXE, CHIEF), [None] * 4, ["take", "axe"]), [[1, "axe", 5, 5], list(ONE)],
                               [[1, 2], [3, 3]], 1)):
            self.assertIs(position == other, True)
            self.assertIs(position != other, False)

    def test_unlike(self):
        position = Position(FREE, [ONE, (1, "axe", 5, 5)], [(3, 3)], 1)
        for other in (Position(FREE, position.pieces, position.stones, 0), Position(FREE, position.pieces, (), 1),
                      Position(FREE, position.pieces, [(3, 4)], 1), Position(FREE, [ONE], position.stones, 1),
                      Position(FREE, [ONE, (0, "axe", 5, 5)], position.stones, 1),
                      Position(FREE, [ONE, (1, "king", 5, 5)], position.stones, 1),
                      Position(FREE, [ONE, (1, "axe", 5, 6)], position.stones, 1),
                      Position(Game(FREE.kinds, (-9, None, None, None), FREE.goal), position.pieces, position.stones, 1)):
            self.assertIs(position == other, False)
            self.assertIs(other == position, False)
            self.assertIs(position != other, True)

    def test_other_values(self):
        position = Position(FREE, [ONE])
        for other in (None, str(position), FREE, position.pieces, (FREE, (ONE,), (), 0), 0, True, Position):
            self.assertIs(position == other, False)
            self.assertIs(other == position, False)


if __name__ == "__main__":
    unittest.main()
