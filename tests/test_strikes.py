"""What strikes a square, near and far off."""

import random
import unittest
from itertools import product

from examples import assert_raises, run_examples
from gapsame import strikes
from gapsame.errors import BadNumber, BadPosition, BadSquare
from gapsame.games import Game
from gapsame.kinds import Kind
from gapsame.positions import Position
from gapsame.strikes import strikers, struck
from reference import (ALL_LEAPS, NO_POSITIONS, NO_SQUARES, RIDES, STEPS, no_numbers, some_position, struck_by,
                       things_of)

EXAMPLES = """
>>> head = Kind("head", [(1, 0), (1, 1), (0, 1), (-1, 1), (-1, 0), (-1, -1), (0, -1), (1, -1)], [], True)
>>> cart, far = Kind("cart", [], ["right", "left", "up", "down"]), 10 ** 30
>>> field = Position(Game([head, cart]), [(1, "head", 0, 0), (0, "cart", far, -1), (0, "cart", -far, 1), (0, "cart", 7, 5)])
>>> [struck(field, (0, 1), 0), struck(field, (0, 0), 0), struck(field, [far, 0], 0), struck(field, (1, 1), 1), struck(field, (2, 0), 1)]
[True, False, True, True, False]
>>> strikers(field, (7, -1), 0)
((7, 5), (1000000000000000000000000000000, -1))
>>> yard = Position(Game([head, cart], (0, None, None, None)), [(0, "head", 3, 0), (0, "cart", 3, 4), (1, "cart", 3, 10 ** 20), (1, "head", 0, 0)], [(1, 4)])
>>> [struck(yard, (3, 0), 0), struck(yard, (3, 0), 1), struck(yard, (3, 4), 1), struck(yard, (1, 4), 0), struck(yard, (0, 4), 0), struck(yard, (-1, 0), 1)]
[True, False, True, False, False, False]
>>> struck(field, (0, 1), 2)
raises BadNumber('hand')
"""
FAR = 10 ** 40


def lone(kind, square, stones=(), edges=(None,) * 4, others=()):
    """A position of one piece of this kind on the square, and of other ones."""
    kinds = [kind, Kind("post", [(3, 3)])]
    return Position(Game(kinds, edges, ("take", "post")), [(0, kind.name, *square), *others], stones)


class Strikes(unittest.TestCase):
    def test_examples(self):
        run_examples(self, EXAMPLES, {"Kind": Kind, "Game": Game, "Position": Position, **vars(strikes)})

    def assert_struck(self, position, square, hand, wanted):
        self.assertEqual(strikers(position, square, hand), tuple(wanted))
        self.assertEqual(strikers(hand=hand, square=list(square), position=position), tuple(wanted))
        self.assertIs(struck(position, square, hand), len(wanted) > 0)
        self.assertIs(struck(position=position, square=list(square), hand=hand), len(wanted) > 0)

    def test_each_leap(self):
        for leap in ALL_LEAPS:
            for column, row in ((0, 0), (FAR, -FAR)):
                position = lone(Kind("axe", [leap]), (column, row))
                for across, up in product(range(-4, 5), repeat=2):
                    wanted = [(column, row)] if (across, up) == leap else []
                    self.assert_struck(position, (column + across, row + up), 0, wanted)
                    self.assert_struck(position, (column + across, row + up), 1, [])

    def test_leaps_over_things(self):
        stones = [(1, 0), (0, 1), (1, 1)]
        position = lone(Kind("axe", [(2, 2), (2, 0), (1, 1)]), (0, 0), stones, (None,) * 4, [(1, "post", 2, 0)])
        for square in ((2, 2), (2, 0)):
            self.assert_struck(position, square, 0, [(0, 0)])
        self.assert_struck(position, (1, 1), 0, [])
        self.assert_struck(position, (2, 0), 1, [])

    def test_each_ride(self):
        for ride in RIDES:
            across, up = STEPS[ride]
            position = lone(Kind("axe", [], [ride]), (5, -7))
            for many in (-FAR, -2, -1, 0, 1, 2, 1000, FAR):
                wanted = [(5, -7)] if many > 0 else []
                self.assert_struck(position, (5 + across * many, -7 + up * many), 0, wanted)
                self.assert_struck(position, (5 + across * many + up, -7 + up * many + across), 0, [])
                if many != 0:
                    self.assert_struck(position, (5 + up * many, -7 + across * many), 0, [])

    def test_what_stands_between(self):
        for ride in RIDES:
            across, up = STEPS[ride]
            for at in (1, 2, FAR - 1, FAR):
                square = (across * at, up * at)
                beside = [(across * at + up, up * at + across), (-across * at, -up * at)]
                for hand in (0, 1):
                    position = lone(Kind("axe", [], [ride]), (0, 0), beside, (None,) * 4, [(hand, "post", *square)])
                    for many in (1, 2, FAR - 1, FAR, FAR + 1):
                        wanted = [(0, 0)] if many <= at else []
                        self.assert_struck(position, (across * many, up * many), 0, wanted)
                position = lone(Kind("axe", [], [ride]), (0, 0), [square])
                for many in (1, 2, FAR - 1, FAR, FAR + 1):
                    wanted = [(0, 0)] if many < at else []
                    self.assert_struck(position, (across * many, up * many), 0, wanted)

    def test_edges(self):
        kind = Kind("axe", [(2, 0), (0, -3)], RIDES)
        position = lone(kind, (0, 0), (), (-FAR, 1, -2, FAR))
        for square, is_struck in (((-FAR, 0), True), ((-FAR - 1, 0), False), ((1, 0), True), ((2, 0), False), ((0, -2), True),
                                  ((0, -3), False), ((0, FAR), True), ((0, FAR + 1), False), ((3, 0), False)):
            self.assert_struck(position, square, 0, [(0, 0)] if is_struck else [])

    def test_several_strikers(self):
        kinds = [Kind("axe", [(1, 0)], ["left", "down"]), Kind("post", [(-1, 0)])]
        pieces = [(0, "axe", 9, 5), (0, "post", 6, 5), (0, "axe", 4, 5), (1, "axe", 5, FAR), (0, "axe", 5, 8), (0, "axe", 5, 5)]
        position = Position(Game(kinds, goal=("take", "post")), pieces, [(5, 9)])
        self.assert_struck(position, (5, 5), 0, [(4, 5), (5, 8), (6, 5)])
        self.assert_struck(position, (5, 5), 1, [])
        self.assert_struck(position, (5, 10), 1, [(5, FAR)])
        self.assert_struck(position, (7, 5), 0, [(9, 5)])

    def test_near_fields_square_by_square(self):
        chance = random.Random(41)
        for _ in range(300):
            edges = [chance.choice([None, edge]) for edge in (0, 5, 0, 4)]
            position = some_position(chance, (range(6), range(5)), edges)
            for hand in (0, 1):
                wanted = struck_by(position.game, things_of(position), hand, 12)
                for square in product(range(-3, 9), range(-3, 9)):
                    self.assert_struck(position, square, hand, wanted.get(square, []))

    def test_refused(self):
        position = lone(Kind("axe", [(1, 0)]), (0, 0))
        for function in (struck, strikers):
            for value in NO_POSITIONS:
                for square, hand in (((0, 0), 0), (None, None)):
                    assert_raises(self, BadPosition("position"), function, value, square, hand)
            for square in NO_SQUARES:
                assert_raises(self, BadSquare("square"), function, position, square, 0)
                assert_raises(self, BadSquare("square"), function, position, square, 2)
            for hand in no_numbers(0, 1):
                assert_raises(self, BadNumber("hand"), function, position, (0, 0), hand)


if __name__ == "__main__":
    unittest.main()
