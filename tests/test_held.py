"""Held and still, by trying all moves to all squares, and whether a goal is reached."""

import random
import unittest
from itertools import product

from gapsame.games import Game
from gapsame.kinds import Kind
from gapsame.moves import done, is_held, is_still, reached
from gapsame.positions import Position
from reference import AROUND, RIDES, SIDES, held_and_still, moves_of, some_position

FAR = 10 ** 40
HEAD, CART, AXE = Kind("head", AROUND, (), True), Kind("cart", [], RIDES), Kind("axe", [(2, 1), (-1, 0)])
STEP = Kind("step", [(1, 0)], (), True)


class HeldAndStill(unittest.TestCase):
    def assert_as_tried(self, position, steps):
        """Compares with trying all moves; returns which of both it is."""
        held, still = held_and_still(position, steps)
        self.assertIs(is_held(position), held, str(position))
        self.assertIs(is_still(position), still, str(position))
        if position.game.goal == ("hold",):
            self.assertIs(reached(position), held and position.turn == 1)
        return held, still

    def test_small_fields(self):
        chance = random.Random(61)
        for wide, high in product(range(1, 5), repeat=2):
            found = []
            for _ in range(100):
                position = some_position(chance, (range(wide), range(high)), (0, wide - 1, 0, high - 1))
                found.append(self.assert_as_tried(position, 5))
            if wide * high > 2:
                # Each of the three is met, so that none is told of all.
                self.assertEqual(len(set(found)), 3, (wide, high))

    def test_fields_without_an_end(self):
        chance = random.Random(62)
        found = []
        for _ in range(1500):
            edges = [chance.choice([None, None, edge]) for edge in (0, 5, 0, 5)]
            places = [chance.sample(range(6), chance.randint(2, 6)) for _ in range(2)]
            found.append(self.assert_as_tried(some_position(chance, places, edges, 3, 12), 12))
        self.assertEqual(len(set(found)), 3)

    def test_far_apart(self):
        chance = random.Random(63)
        for _ in range(300):
            state = chance.getstate()
            near = some_position(chance, [(0, 1, 2, 12, 13)] * 2, (None,) * 4, 3, 10)
            chance.setstate(state)
            far = some_position(chance, [(0, 1, 2, FAR, FAR + 1)] * 2, (None,) * 4, 3, 10)
            held, still = self.assert_as_tried(near, 30)
            self.assertEqual((is_held(far), is_still(far)), (held, still))

    def test_only_one_square_of_a_ride_is_let(self):
        """Each square of a ride may be the only one: the lord's column, the last one, and one of few."""
        for at in (2, 3, 4, 5, 7, FAR):
            # The cart of hand 1 strikes the head from above; all squares beside it are struck as well.
            pieces = [(1, "cart", at, FAR + 5), (1, "cart", at - 1, FAR), (1, "cart", at + 1, FAR), (0, "head", at, 0)]
            held = Position(Game([HEAD, CART], goal=("take", "cart")), pieces)
            self.assertEqual((is_held(held), is_still(held)), (True, False))
            for row in (2, 9):
                barred = Position(held.game, pieces + [(0, "cart", -1, row)])
                self.assertEqual((is_held(barred), is_still(barred)), (False, False))
            taking = Position(held.game, pieces + [(0, "cart", -3, FAR + 5)])
            self.assertEqual((is_held(taking), is_still(taking)), (False, False))
            # Here another cart is met ahead of the lord's column.
            beside = Position(held.game, pieces + [(0, "cart", at - 9, FAR)])
            self.assertEqual((is_held(beside), is_still(beside)), (True, False))

    def test_still_for_want_of_room(self):
        game = Game([STEP, Kind("right", [], ["right"]), CART], (0, 3, 0, None), ("take", "cart"))
        for stone, wanted in ((1, True), (2, False), (3, False), (None, False)):
            stones = [] if stone is None else [(stone, 4)]
            position = Position(game, [(0, "step", 3, 0), (0, "right", 0, 4)], stones)
            self.assertIs(is_still(position), wanted)
            self.assertIs(is_held(position), False)

    def test_hands_without_pieces(self):
        position = Position(Game([AXE], goal=("take", "axe")), [(0, "axe", 0, 0)], (), 1)
        self.assertEqual((is_held(position), is_still(position)), (False, True))
        position = Position(position.game, position.pieces)
        self.assertEqual((is_held(position), is_still(position)), (False, False))

    def test_held_only_when_it_has_the_turn(self):
        corner = Game([HEAD, CART], (0, None, 0, None))
        pieces = [(1, "head", 0, 0), (0, "cart", 0, FAR), (0, "cart", 1, 9)]
        for turn, wanted in ((1, True), (0, False)):
            position = Position(corner, pieces, (), turn)
            self.assertEqual((is_held(position), is_still(position), reached(position)), (wanted, False, wanted))

    def test_still_is_not_held(self):
        corner = Game([HEAD, CART], (0, None, 0, None))
        position = Position(corner, [(1, "head", 0, 0), (0, "cart", 9, 1), (0, "cart", 1, 9)], (), 1)
        self.assertEqual((is_held(position), is_still(position), reached(position)), (False, True, False))

    def test_hand_0_is_held(self):
        game = Game([HEAD, CART], (0, None, 0, None))
        pieces = [(0, "head", 0, 0), (1, "cart", 0, 9), (1, "cart", 1, 9), (1, "head", 90, 90)]
        position = Position(game, pieces)
        self.assertEqual((is_held(position), is_still(position), reached(position)), (True, False, False))


class Reached(unittest.TestCase):
    def test_take(self):
        game = Game([HEAD, CART, AXE], goal=("take", "axe"))
        for turn in (0, 1):
            for pieces, wanted in (([(1, "axe", 0, 0)], False), ([(0, "axe", 0, 0)], True), ([(1, "cart", 0, 0)], True),
                                   ([(1, "head", 0, 0), (0, "cart", 4, 4)], True), ([(1, "axe", 3, 3), (1, "axe", 0, 0)], False),
                                   ([(0, "axe", 3, 3), (1, "axe", 0, 0)], False)):
                self.assertIs(reached(Position(game, pieces, (), turn)), wanted)
        position = Position(game, [(0, "cart", 0, 0), (1, "axe", FAR, 0), (1, "axe", 0, FAR)])
        later = done(done(position, ((0, 0), (FAR, 0))), ((0, FAR), (-1, FAR)))
        last = done(done(later, ((FAR, 0), (-1, 0))), ((-1, FAR), (-2, FAR)))
        for move, wanted in ((((-1, 0), (-2, 0)), False), (((-1, 0), (-1, FAR)), False)):
            self.assertIs(reached(done(last, move)), wanted)
        near = Position(game, [(0, "cart", -2, 0), (1, "axe", -2, FAR)])
        self.assertEqual((reached(near), reached(done(near, ((-2, 0), (-2, FAR))))), (False, True))

    def test_reach(self):
        edges = (-5, FAR, -7, 9)
        squares = {"left": (-5, 0), "right": (FAR, 0), "low": (0, -7), "high": (0, 9)}
        for side, name in product(SIDES, ("head", "axe")):
            game = Game([HEAD, AXE], edges, ("reach", side, name))
            for other, square in squares.items():
                for hand, turn, kind in product((0, 1), (0, 1), ("head", "axe")):
                    position = Position(game, [(hand, kind, *square), (0, "axe", 1, 1), (1, "axe", 2, 2)], (), turn)
                    wanted = side == other and hand == 0 and kind == name
                    self.assertIs(reached(position), wanted)
            corner = Position(game, [(0, name, -5, 9), (0, "axe", 0, 0)])
            self.assertIs(reached(corner), side in ("left", "high"))
            self.assertIs(reached(Position(game, [(0, name, -4, 8), (0, "axe", 0, 0)], [squares[side]])), False)

    def test_reach_edges_of_one_column(self):
        game = Game([AXE], (3, 3, None, None), ("reach", "right", "axe"))
        self.assertIs(reached(Position(game, [(0, "axe", 3, FAR)])), True)
        self.assertIs(reached(Position(game, [(1, "axe", 3, FAR)])), False)

    def test_hold_without_an_end(self):
        chance = random.Random(64)
        for _ in range(200):
            position = some_position(chance, (range(5), range(5)))
            if position.game.goal == ("hold",) and position.turn == 0:
                self.assertIs(reached(position), False)
                for move in moves_of(position, 7):
                    later = done(position, move)
                    self.assertIs(reached(later), held_and_still(later, 18)[0])


if __name__ == "__main__":
    unittest.main()
