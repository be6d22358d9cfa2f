"""Pictures: of pieces, stones, nothing, and what is beyond the edges."""

import random
import unittest

from contests import FAR
from examples import assert_raises, run_examples
from gapsame import pictures
from gapsame.errors import BadNumber, BadPosition, BadSquare
from gapsame.games import Game
from gapsame.kinds import Kind
from gapsame.pictures import picture
from gapsame.positions import Position
from reference import AROUND, NO_POSITIONS, NO_SQUARES, is_on, no_numbers, some_position, things_of

EXAMPLES = """
>>> around = [(0, 1), (1, 1), (1, 0), (1, -1), (0, -1), (-1, -1), (-1, 0), (-1, 1)]
>>> game = Game([Kind("chief", around, (), True), Kind("runner", [], ["right", "left", "up", "down"])], (0, None, 0, None))
>>> corner = Position(game, [(1, "chief", 0, 0), (0, "chief", 2, 1), (0, "runner", 9, 9)], [(3, 2)])
>>> [picture(corner, (0, 0), 4, 3), picture(corner, [-1, -1], wide=3, high=2), picture(corner, (9, 9), 1, 1)]
[('...#', '..C.', 'c...'), ('~c.', '~~~'), ('R',)]
>>> picture(corner, (0, 0), 61, 1)
raises BadNumber('wide')
"""
GAME = Game([Kind("chief", AROUND, (), True), Kind("axe", [(1, 0)]), Kind("zebra", [(0, 1)])], (-2, 3, -1, 4))
BOX = Position(GAME, [(1, "chief", 0, 0), (0, "axe", -2, 4), (1, "axe", 3, -1), (0, "zebra", 3, 4), (1, "zebra", 1, 1)],
               [(-2, -1), (0, 1)])


def sign(position, square):
    """The sign for what stands on the square."""
    if not is_on(position.game, square):
        return "~"
    thing = things_of(position).get(square, ".")
    if thing == "stone":
        return "#"
    return thing if thing == "." else thing[1][0].upper() if thing[0] == 0 else thing[1][0]


class Pictures(unittest.TestCase):
    def test_examples(self):
        run_examples(self, EXAMPLES, {"Kind": Kind, "Game": Game, "Position": Position, **vars(pictures)})

    def test_all_edges(self):
        self.assertEqual(picture(BOX, (-3, -2), 8, 8), (
            "~~~~~~~~",
            "~A....Z~",
            "~......~",
            "~......~",
            "~..#z..~",
            "~..c...~",
            "~#....a~",
            "~~~~~~~~"))
        self.assertEqual(picture(BOX, (-2, -1), 6, 6), ("A....Z", "......", "......", "..#z..", "..c...", "#....a"))
        self.assertEqual(picture(position=BOX, square=[0, 0], wide=2, high=2), ("#z", "c."))
        self.assertEqual(picture(BOX, (0, 0), 1, 2), ("#", "c"))
        self.assertEqual(picture(BOX, (0, 0), 2, 1), ("c.",))

    def test_far_away(self):
        self.assertEqual(picture(BOX, (FAR, -FAR), 3, 2), ("~~~", "~~~"))
        wide = Position(Game([Kind("axe", [(1, 0)])], goal=("take", "axe")),
                        [(0, "axe", FAR, -FAR), (1, "axe", FAR + 59, 59 - FAR)])
        found = picture(wide, (FAR, -FAR), 60, 60)
        self.assertEqual((found[0], found[59]), ("." * 59 + "a", "A" + "." * 59))
        self.assertEqual(set(found[1:59]), {"." * 60})
        self.assertEqual(picture(wide, (0, 0), 60, 1), ("." * 60,))

    def test_sizes(self):
        for wide in (1, 2, 59, 60):
            for high in (1, 3, 60):
                found = picture(BOX, (-30, -5), wide, high)
                self.assertIsInstance(found, tuple)
                self.assertEqual((len(found), {len(row) for row in found}), (high, {wide}))

    def test_some(self):
        chance = random.Random(801)
        for _ in range(60):
            edges = [chance.choice([None, edge]) for edge in (-1, 5, 0, 6)]
            position = some_position(chance, (range(-1, 6), range(7)), edges)
            column, row = chance.randint(-4, 4), chance.randint(-4, 4)
            wide, high = chance.randint(1, 9), chance.randint(1, 9)
            wanted = ["".join([sign(position, (column + i, row + j)) for i in range(wide)]) for j in range(high)][::-1]
            self.assertEqual(picture(position, (column, row), wide, high), tuple(wanted))

    def test_refused(self):
        for value in NO_POSITIONS:
            for square in ((0, 0), None):
                assert_raises(self, BadPosition("position"), picture, value, square, None, None)
        for square in NO_SQUARES:
            for wide in (1, 0):
                assert_raises(self, BadSquare("square"), picture, BOX, square, wide, None)
        for number in no_numbers(1, 60):
            for high in (1, 61, None):
                assert_raises(self, BadNumber("wide"), picture, BOX, (0, 0), number, high)
            assert_raises(self, BadNumber("high"), picture, BOX, (FAR, FAR), 60, number)


if __name__ == "__main__":
    unittest.main()
