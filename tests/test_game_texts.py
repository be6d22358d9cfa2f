"""The texts of games, there and back, and the first item that cannot stand."""

import unittest

from bent import Bent
from gapsame.games import Game
from gapsame.kinds import Kind
from reference import ALL_LEAPS, AROUND

CHIEF, AXE, BOW = Kind("chief", AROUND, (), True), Kind("axe", [(1, 2), (-1, 0)]), Kind("bow", [(0, 1)], ["down", "up"])
TEXTS = {
    "kind axe leaps -1 0 , 1 2\ngoal hold": Game([AXE]),
    "kind axe leaps -1 0 , 1 2\nkind bow leaps 0 1 rides up down\ngoal take bow": Game([BOW, AXE], goal=("take", "bow")),
    "kind axe leaps -1 0 , 1 2\nedge left 0\nedge right 7\nedge low -12\nedge high -12\ngoal reach low axe":
        Game([AXE], (0, 7, -12, -12), ("reach", "low", "axe")),
    "kind bow leaps 0 1 rides up down\nkind king lord leaps 1 0\nedge high 5\ngoal reach high king":
        Game([Kind("king", [(1, 0)], (), True), BOW], (None, None, None, 5), ("reach", "high", "king")),
    f"kind axe leaps -1 0 , 1 2\nedge right {10 ** 60 - 1}\nedge low {1 - 10 ** 60}\ngoal hold":
        Game([AXE], (None, 10 ** 60 - 1, 1 - 10 ** 60, None)),
}
A, B = "kind axe rides up\n", "kind bow rides up\n"
# Each text with the line and the item that cannot stand.
BENT = {
    "": (0, 0), "\n": (0, 0), " ": (0, 0), "goal hold": (0, 0), "edge left 0": (0, 0), "kind": (0, 1), "kind ": (0, 1),
    "kind axe": (0, 2), "kind axe rides": (0, 3), "kind lord": (0, 1), "kind axe rides up": (1, 0), "Kind axe rides up": (0, 0),
    "kind axe rides up ": (0, 4), "kind  axe rides up": (0, 1), "kind axe leaps 1 0 , 0 1": (0, 6),
    "kind axe leaps 1 0 , 1 0": (0, 7), "kind axe lord rides up": (0, 3), "kind axe rides up left": (0, 4),
    A: (1, 0), A + "\ngoal hold": (1, 0), A + "turn 0": (1, 0), A + "piece 0 axe 0 0": (1, 0), A + "Goal hold": (1, 0),
    A + "edge": (1, 1), A + "edge up": (1, 1), A + "edge left": (1, 2), A + "edge left ": (1, 2), A + "edge left none": (1, 2),
    A + "edge left +1": (1, 2), A + "edge left 01": (1, 2), A + "edge left -0": (1, 2), A + "edge left 1 2": (1, 3),
    A + "edge left " + "1" * 71: (1, 2), A + "edge left " + "1" * 70: (2, 0), A + "edge left 1 ": (1, 3),
    A + "edge left -" + "1" * 70: (2, 0), A + "edge left -" + "1" * 71: (1, 2), A + "edge left 1": (2, 0),
    A + "edge left 1\n": (2, 0), A + "edge left 1\nkind bow rides up": (2, 0), A + "edge left 1\nturn 0": (2, 0),
    A + "goal": (1, 1), A + "goal ": (1, 1), A + "goal held": (1, 1), A + "goal hold ": (1, 2), A + "goal hold axe": (1, 2),
    A + "goal take": (1, 2), A + "goal take lord": (1, 2), A + "goal take axe axe": (1, 3), A + "goal take Axe": (1, 2),
    A + "goal take abcdefghi": (1, 2), A + "goal take bow": (1, 2), A + "goal reach": (1, 2), A + "goal reach axe": (1, 2),
    A + "goal reach left": (1, 3), A + "goal reach left stone": (1, 3), A + "goal reach left axe axe": (1, 4),
    A + "goal reach left axe": (1, 3), A + "edge right 0\ngoal reach left axe": (2, 3),
    A + "edge left 0\ngoal reach left bow": (2, 3), A + "goal hold\n": (2, 0), A + "goal hold\ngoal hold": (2, 0),
    A + "goal hold\nturn 0": (2, 0), A + "goal hold\nkind bow rides up": (2, 0), A + "goal hold\n ": (2, 0),
    B + A + "goal hold": (2, 1), A + A + "goal hold": (2, 1), B + A + "edge low 0\ngoal reach low axe": (3, 3),
    A + B + "goal hold x": (2, 2), B + A + "goal": (2, 1), B + A: (2, 0), A + "edge high 0\nedge low 0\ngoal hold": (3, 1),
    A + "edge left 0\nedge left 0\ngoal hold": (3, 1), A + "edge left 0\nedge left 1\ngoal hold": (3, 1),
    A + "edge left 2\nedge right 1\ngoal hold": (3, 1), A + "edge low 2\nedge high 1\ngoal take axe": (3, 2),
    A + "edge low 2\nedge left 1\ngoal hold": (3, 1), "kind axe lord leaps 0 1\ngoal take axe": (1, 2),
    "kind axe lord leaps 0 1\nedge low 0\ngoal reach low axe x": (2, 4), "\n" + A + "goal hold": (0, 0),
    "kind axe rides\tup\ngoal hold": (0, 2), "kind axe rides up\r\ngoal hold": (0, 3), A + "goal hold\r": (1, 1),
}


class Texts(Bent, unittest.TestCase):
    values, is_of_position, right, bent = Game, False, TEXTS, BENT

    def test_what_is_read_is_as_it_is_made(self):
        game = Game.read("kind axe leaps 1 0\nedge left -3\nedge high 12\ngoal reach left axe")
        self.assertEqual((game.edges, game.goal), ((-3, None, None, 12), ("reach", "left", "axe")))
        self.assertEqual((game.kinds[0].name, game.kinds[0].leaps), ("axe", ((1, 0),)))

    def test_eight_and_nine_kinds(self):
        for many in (1, 2, 8, 9, 12):
            rows = [f"kind {name} leaps 0 1" for name in "abcdefghijkl"[:many]]
            text = "\n".join(rows + ["goal hold"])
            if many < 9:
                self.assertEqual(str(Game.read(text)), text)
            else:
                self.assert_bent(text, (many, 1))

    def test_the_longest_text_of_a_kind(self):
        game = Game([Kind("a", ALL_LEAPS, ["up", "left"]), Kind("b", ALL_LEAPS[:9], (), True)])
        self.assertTrue(Game.read(str(game)) == game)


if __name__ == "__main__":
    unittest.main()
