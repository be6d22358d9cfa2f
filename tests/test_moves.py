"""Moves: which may go, which are let, where a piece goes, and what stands behind a move."""

import random
import unittest
from itertools import product

from examples import assert_raises, run_examples
from gapsame import moves
from gapsame.errors import BadMove, BadPosition, BadSquare, Misfit
from gapsame.games import Game
from gapsame.kinds import Kind
from gapsame.moves import done, goes, is_held, is_let, is_still, may_go, reached
from gapsame.positions import Position
from gapsame.strikes import struck
from reference import (AROUND, NO_MOVES, NO_POSITIONS, NO_SQUARES, RIDES, STEPS, behind, is_let_here, is_on, kind_named,
                       moves_of, some_position, things_of)

EXAMPLES = """
>>> [may_go(field, ((7, 5), (7, 0))), may_go(field, ((7, 5), (8, 6))), may_go(field, ((0, 0), (0, 1))), goes(field, (7, 5))[1]]
[True, False, False, (('right', None), ('left', None), ('up', None), ('down', None))]
>>> later = done(field, [(7, 5), (7, 0)])
>>> [later.turn, is_held(later), is_still(later), reached(later), reached(field), goes(later, (0, 0))]
[1, True, False, True, False, (((-1, -1), (-1, 0), (-1, 1), (0, -1), (0, 1), (1, -1), (1, 0), (1, 1)), ())]
>>> goes(yard, (3, 4))
((), (('right', None), ('left', (2, 4)), ('up', (3, 100000000000000000000)), ('down', (3, 1))))
>>> [is_let(yard, ((3, 4), to)) for to in ((5, 4), (3, 99), (3, 10 ** 20), (3, 0))]
[False, True, True, False]
>>> done(yard, ((3, 4), (3, 10 ** 20))).pieces
((0, 'cart', 3, 100000000000000000000), (0, 'head', 3, 0), (1, 'head', 0, 0))
>>> open_to = Position(Game([head, cart], goal=("take", "cart")), [(0, "cart", 0, 5), (1, "head", 0, 0), (1, "cart", 4, 5)])
>>> [struck(open_to, (0, 0), 0), may_go(open_to, ((0, 5), (0, 0))), goes(open_to, (0, 5))[1][3], reached(open_to), reached(done(open_to, ((0, 5), (4, 5))))]
[True, False, ('down', (0, 1)), False, True]
>>> alone = Position(Game([head, cart], (0, 0, 0, 0), ("reach", "left", "cart")), [(1, "head", 0, 0)], [], 1)
>>> [is_held(alone), is_still(alone), reached(alone), reached(Position(alone.game, [(0, "cart", 0, 0)]))]
[False, True, False, True]
>>> done(field, ((0, 0), (0, 1)))
raises Misfit('move')
>>> goes(field, (0, 0))
raises Misfit('square')
"""
FAR = 10 ** 40
HEAD, CART, AXE = Kind("head", AROUND, (), True), Kind("cart", [], RIDES), Kind("axe", [(2, 1), (-1, 0)])
FIELD = Position(Game([HEAD, CART]), [(1, "head", 0, 0), (0, "cart", 10 ** 30, -1), (0, "cart", -10 ** 30, 1), (0, "cart", 7, 5)])
YARD = Position(Game([HEAD, CART], (0, None, None, None)), [(0, "head", 3, 0), (0, "cart", 3, 4), (1, "cart", 3, 10 ** 20),
                                                            (1, "head", 0, 0)], [(1, 4)])
GAME = Game([HEAD, CART, AXE], goal=("take", "axe"))


class Gone(unittest.TestCase):
    def test_examples(self):
        run_examples(self, EXAMPLES, {"head": HEAD, "cart": CART, "field": FIELD, "yard": YARD, "Game": Game,
                                      "Position": Position, "struck": struck, **vars(moves)})

    def assert_may_go(self, position, move, wanted, is_let_too=None):
        pair = [list(move[0]), list(move[1])]
        for passed in (move, pair):
            self.assertIs(may_go(position, passed), wanted)
            self.assertIs(is_let(position, passed), wanted if is_let_too is None else is_let_too)
        if not wanted:
            assert_raises(self, Misfit("move"), done, position, pair)

    def test_onto_what_a_leap_may_go(self):
        for ends, wanted in (([], True), ([(0, "cart", 2, 1)], False), ([(1, "cart", 2, 1)], True), ([(1, "head", 2, 1)], False),
                             ([(0, "head", 2, 1)], False)):
            for turn in (0, 1):
                pieces = [(turn, "axe", 0, 0)] + [(abs(hand - turn), *rest) for hand, *rest in ends]
                position = Position(GAME, pieces, (), turn)
                self.assert_may_go(position, ((0, 0), (2, 1)), wanted)
                self.assertEqual(goes(position, (0, 0)), (((-1, 0), (2, 1)) if wanted else ((-1, 0),), ()))
        position = Position(GAME, [(0, "axe", 0, 0)], [(2, 1)])
        self.assert_may_go(position, ((0, 0), (2, 1)), False)
        for edges in ((0, 1, None, None), (None, None, 0, 0)):
            position = Position(Game(GAME.kinds, edges, GAME.goal), [(0, "axe", 0, 0)])
            self.assert_may_go(position, ((0, 0), (2, 1)), False)

    def test_onto_what_a_ride_may_go(self):
        for ride, many in product(RIDES, (1, 2, 5, FAR)):
            across, up = STEPS[ride]

            def ahead(steps):
                return across * steps, up * steps

            for there, is_taken in (((0, "axe"), False), ((1, "axe"), True), ((1, "head"), False), ((0, "head"), False),
                                    ("stone", False)):
                pieces = [(0, "cart", 0, 0)] + ([] if there == "stone" else [(*there, *ahead(many))])
                stones = [ahead(many)] if there == "stone" else []
                position = Position(GAME, pieces, stones)
                last = many if is_taken else many - 1
                wanted = {name: None for name in RIDES} | {ride: ahead(last)}
                if last == 0:
                    del wanted[ride]
                self.assertEqual(goes(position, (0, 0)), ((), tuple(wanted.items())))
                for steps in (1, 2, many - 1, many, many + 1):
                    if steps > 0:
                        self.assert_may_go(position, ((0, 0), ahead(steps)), steps <= last)

    def test_rides_to_edges(self):
        for far in (0, 1, 3, FAR):
            game = Game([CART], (-far, far + 1, -far - 2, far + 3), ("take", "cart"))
            position = Position(game, [(0, "cart", 0, 0)])
            wanted = [("right", (far + 1, 0)), ("left", (-far, 0)), ("up", (0, far + 3)), ("down", (0, -far - 2))]
            self.assertEqual(goes(position, [0, 0]), ((), tuple([(ride, to) for ride, to in wanted if to != (0, 0)])))
            for _, to in wanted:
                self.assert_may_go(position, ((0, 0), to), to != (0, 0))
                beyond = tuple([number + (number > 0) - (number < 0) for number in to])
                if beyond != (0, 0):
                    self.assert_may_go(position, ((0, 0), beyond), False)

    def test_leaps_and_rides_of_one_piece(self):
        kind = Kind("both", [(1, 0), (0, 2), (-3, 1)], ["up", "right"])
        position = Position(Game([kind], goal=("take", "both")), [(0, "both", 0, 0)], [(4, 0), (0, 1)])
        self.assertEqual(goes(position, (0, 0)), (((-3, 1), (0, 2), (1, 0)), (("right", (3, 0)),)))

    def test_from_where_no_own_piece_stands(self):
        position = Position(GAME, [(0, "cart", 0, 0), (1, "cart", 5, 5)], [(3, 3)])
        for start in ((5, 5), (3, 3), (1, 0), (FAR, FAR), (0, -1)):
            for end in ((5, 6), (3, 4), (0, 5), start, (0, 1)):
                self.assert_may_go(position, (start, end), False)
            assert_raises(self, Misfit("square"), goes, position, start)
        self.assert_may_go(position, ((0, 0), (0, 0)), False)

    def test_done(self):
        position = Position(GAME, [(0, "cart", 0, 0), (1, "axe", FAR, 0), (0, "axe", 1, 1), (1, "head", 4, 5)], [(3, 3)])
        for end, others in (((5, 0), [(1, "axe", FAR, 0)]), ((FAR, 0), []), ((0, -FAR), [(1, "axe", FAR, 0)])):
            later = done(move=[[0, 0], list(end)], position=position)
            pieces = [(0, "cart", *end), (0, "axe", 1, 1), (1, "head", 4, 5), *others]
            self.assertTrue(later == Position(GAME, pieces, [(3, 3)], 1))
            self.assertTrue(later.game == position.game)
        self.assertTrue(position == Position(GAME, [(0, "cart", 0, 0), (1, "axe", FAR, 0), (0, "axe", 1, 1), (1, "head", 4, 5)],
                                             [(3, 3)]))
        back = done(done(position, ((0, 0), (5, 0))), ((4, 5), (5, 5)))
        self.assertEqual((back.turn, back.pieces), (0, ((0, "axe", 1, 1), (0, "cart", 5, 0), (1, "axe", FAR, 0), (1, "head", 5, 5))))

    def test_what_is_passed_does_not_change(self):
        move, square = [[7, 5], [7, 0]], [7, 5]
        text = str(FIELD)
        for call in (lambda: done(FIELD, move), lambda: may_go(FIELD, move), lambda: is_let(FIELD, move),
                     lambda: goes(FIELD, square), lambda: is_held(FIELD), lambda: is_still(FIELD), lambda: reached(FIELD)):
            call()
            self.assertEqual((move, square, str(FIELD)), ([[7, 5], [7, 0]], [7, 5], text))

    def test_near_fields_square_by_square(self):
        chance = random.Random(51)
        for _ in range(60):
            edges = [chance.choice([None, edge]) for edge in (0, 4, 0, 4)]
            position = some_position(chance, (range(5), range(5)), edges)
            wanted = moves_of(position, 11)
            things = things_of(position)
            for start in product(range(-1, 6), repeat=2):
                for end in product(range(-4, 9), repeat=2):
                    is_there = (start, end) in wanted
                    self.assertIs(may_go(position, (start, end)), is_there)
                    self.assertIs(is_let(position, (start, end)), is_there and is_let_here(position, (start, end), 11))
            for move in wanted:
                later = done(position, move)
                self.assertEqual(things_of(later), behind(things, move))
                self.assertEqual((later.turn, later.stones, later.game == position.game), (1 - position.turn, position.stones, True))
            self.assert_goes(position, wanted)

    def assert_goes(self, position, wanted):
        """That goes tells just the wanted moves, and which rides have no end."""
        for start, thing in things_of(position).items():
            if thing == "stone" or thing[0] != position.turn:
                assert_raises(self, Misfit("square"), goes, position, start)
                continue
            leaps, rides = goes(position, start)
            kind = kind_named(position.game, thing[1])
            ends = [(start[0] + across, start[1] + up) for across, up in kind.leaps]
            self.assertEqual(leaps, tuple(sorted([end for end in ends if (start, end) in wanted])))
            ways = [(ride, self.way_of(position, start, ride, wanted)) for ride in kind.rides]
            found = [(ride, None if len(way) == 11 else way[-1]) for ride, way in ways if way]
            self.assertEqual(rides, tuple(found))

    def way_of(self, position, start, ride, wanted):
        """The squares to which the ride may go, step by step, eleven at most."""
        things, (across, up), way = things_of(position), STEPS[ride], []
        for many in range(1, 12):
            end = (start[0] + across * many, start[1] + up * many)
            if not is_on(position.game, end) or end in things and (start, end) not in wanted:
                break
            way.append(end)
            if end in things:
                break
        return way


class Let(unittest.TestCase):
    def assert_let(self, pieces, moves_let, moves_not_let, stones=(), turn=0):
        position = Position(Game([HEAD, CART, AXE], goal=("take", "axe")), pieces, stones, turn)
        for move in moves_let:
            self.assertEqual((may_go(position, move), is_let(position, move)), (True, True), move)
        for move in moves_not_let:
            self.assertEqual((may_go(position, move), is_let(position, move)), (True, False), move)

    def test_a_lord_that_goes_away_along_a_ride(self):
        for far in (3, FAR):
            pieces = [(0, "head", 0, 0), (1, "cart", far, 0)]
            self.assert_let(pieces, [((0, 0), (0, 1)), ((0, 0), (-1, -1))], [((0, 0), (-1, 0)), ((0, 0), (1, 0))])
            pieces = [(1, "head", 0, 0), (0, "cart", 0, -far)]
            self.assert_let(pieces, [((0, 0), (1, 1))], [((0, 0), (0, 1)), ((0, 0), (0, -1))], (), 1)

    def test_a_lord_that_takes_what_strikes(self):
        pieces = [(0, "head", 0, 0), (1, "cart", 1, 0)]
        self.assert_let(pieces, [((0, 0), (1, 0)), ((0, 0), (-1, 1))], [((0, 0), (-1, 0)), ((0, 0), (1, 1))])
        self.assert_let(pieces + [(1, "cart", FAR, 0)], [], [((0, 0), (1, 0))])

    def test_a_piece_that_bars(self):
        pieces = [(0, "head", 0, 0), (1, "cart", FAR, 0), (0, "cart", 7, 9)]
        self.assert_let(pieces, [((7, 9), (7, 0))], [((7, 9), (7, 1)), ((7, 9), (0, 9)), ((7, 9), (7, -1))])

    def test_a_piece_that_takes_what_strikes(self):
        pieces = [(0, "head", 0, 0), (1, "cart", 0, 9), (0, "cart", FAR, 9), (0, "axe", -2, 8)]
        self.assert_let(pieces, [((FAR, 9), (0, 9)), ((-2, 8), (0, 9))], [((FAR, 9), (1, 9)), ((-2, 8), (-3, 8))])

    def test_a_piece_that_opens_a_line(self):
        pieces = [(0, "head", 0, 0), (0, "cart", 0, 4), (1, "cart", 0, FAR)]
        self.assert_let(pieces, [((0, 4), (0, 1)), ((0, 4), (0, FAR)), ((0, 4), (0, FAR - 1))], [((0, 4), (1, 4)), ((0, 4), (-FAR, 4))])

    def test_struck_by_leaps(self):
        pieces = [(0, "head", 2, 1), (1, "axe", 0, 0), (0, "cart", 1, 9)]
        self.assert_let(pieces, [((2, 1), (3, 1)), ((2, 1), (1, 1))], [((1, 9), (1, 0)), ((1, 9), (1, 1))])
        self.assert_let([(0, "head", 0, 0), (1, "axe", -3, 0)], [((0, 0), (0, 1))], [((0, 0), (-1, 1))])

    def test_without_a_lord(self):
        pieces = [(0, "cart", 0, 0), (1, "cart", 5, 0)]
        self.assert_let(pieces, [((0, 0), (5, 0)), ((0, 0), (0, FAR))], [])


class Refused(unittest.TestCase):
    def test_positions(self):
        for value in NO_POSITIONS:
            for function in (may_go, is_let, done, goes):
                for other in (((0, 0), (0, 1)), (0, 0), None):
                    assert_raises(self, BadPosition("position"), function, value, other)
            for function in (is_held, is_still, reached):
                assert_raises(self, BadPosition("position"), function, value)

    def test_moves(self):
        for move in NO_MOVES:
            for function in (may_go, is_let, done):
                assert_raises(self, BadMove("move"), function, FIELD, move)

    def test_squares(self):
        for square in NO_SQUARES:
            assert_raises(self, BadSquare("square"), goes, FIELD, square)
        for square in ((0, 0), (8, 8), (FAR, FAR)):
            assert_raises(self, Misfit("square"), goes, FIELD, square)
            assert_raises(self, Misfit("square"), goes, position=FIELD, square=list(square))

    def test_moves_that_may_not_go(self):
        for move in (((0, 0), (0, 1)), ((7, 5), (8, 6)), ((7, 5), (7, 5)), ((1, 1), (1, 2)), ((FAR, FAR), (0, 0))):
            assert_raises(self, Misfit("move"), done, FIELD, move)
            self.assertEqual((may_go(FIELD, move), is_let(FIELD, move)), (False, False))


if __name__ == "__main__":
    unittest.main()
