"""The texts of positions, there and back, and the first item that cannot stand."""

import random
import unittest

from bent import Bent
from examples import assert_raises
from gapsame.errors import BadText
from gapsame.games import Game
from gapsame.kinds import Kind
from gapsame.positions import Position
from reference import AROUND, some_position, wanted_error

CHIEF, AXE = Kind("chief", [(1, 0), (0, -1)], (), True), Kind("axe", [(1, 2)], ["up"])
HEAD = "kind axe leaps 1 2 rides up\ngoal take axe\n"
LORDS = "kind axe rides up\nkind chief lord leaps 0 1\nkind king lord leaps 0 1\n"
BOX = "kind axe rides up\nedge left 0\nedge right 9\nedge low 0\nedge high 9\ngoal take axe\nturn 0\n"
TEXTS = {
    HEAD + "turn 0\npiece 0 axe 0 0": Position(Game([AXE], goal=("take", "axe")), [(0, "axe", 0, 0)]),
    HEAD + "turn 1\npiece 0 axe -7 0\npiece 1 axe -9 4\nstone -1 5\nstone 2 -5":
        Position(Game([AXE], goal=("take", "axe")), [(1, "axe", -9, 4), (0, "axe", -7, 0)], [(2, -5), (-1, 5)], 1),
    "kind axe leaps 1 2 rides up\nkind chief lord leaps 0 -1 , 1 0\nedge left -4\nedge high 90\ngoal hold\nturn 0\n"
    "piece 0 chief -4 90\npiece 1 axe 2 11\npiece 1 axe 11 2\npiece 1 chief 0 0\nstone 5 1":
        Position(Game([CHIEF, AXE], (-4, None, None, 90)), [(1, "chief", 0, 0), (1, "axe", 11, 2), (1, "axe", 2, 11),
                                                            (0, "chief", -4, 90)], [(5, 1)]),
    HEAD + f"turn 0\npiece 0 axe {-10 ** 59} {10 ** 60 - 1}\nstone 0 {10 ** 60 - 1}":
        Position(Game([AXE], goal=("take", "axe")), [(0, "axe", -10 ** 59, 10 ** 60 - 1)], [(0, 10 ** 60 - 1)]),
}
# Each text with the line and the item that cannot stand.
BENT = {
    "": (0, 0), "turn 0": (0, 0), HEAD: (2, 0), HEAD[:-1]: (2, 0), HEAD + "piece 0 axe 0 0": (2, 0), HEAD + "goal hold": (2, 0),
    HEAD + "turn": (2, 1), HEAD + "turn ": (2, 1), HEAD + "turn 2": (2, 1), HEAD + "turn 00": (2, 1), HEAD + "turn -0": (2, 1),
    HEAD + "turn 0 ": (2, 2), HEAD + "turn 0 1": (2, 2), HEAD + "turn 0": (3, 0), HEAD + "turn 0\n": (3, 0),
    HEAD + "turn 0\nstone 0 0": (3, 0), HEAD + "turn 0\nturn 0": (3, 0), HEAD + "turn 0\npiece": (3, 1),
    HEAD + "turn 0\npiece 2": (3, 1), HEAD + "turn 0\npiece 0": (3, 2), HEAD + "turn 0\npiece 0 stone": (3, 2),
    HEAD + "turn 0\npiece 0 axe": (3, 3), HEAD + "turn 0\npiece 0 axe x": (3, 3), HEAD + "turn 0\npiece 0 axe 0": (3, 4),
    HEAD + "turn 0\npiece 0 axe 0 00": (3, 4), HEAD + "turn 0\npiece 0 axe 0 0 0": (3, 5), HEAD + "turn 0\npiece 0 axe 0 0 ": (3, 5),
    HEAD + "turn 0\npiece 0 axe 0 " + "1" * 71: (3, 4), HEAD + "turn 0\npiece 0 bow 0 0": (3, 4),
    HEAD + "turn 0\npiece 0 bow 0 0\npiece": (4, 1), HEAD + "turn 0\npiece 0 axe 0 0\n": (4, 0),
    HEAD + "turn 0\npiece 0 axe 0 0\nturn 1": (4, 0), HEAD + "turn 0\npiece 0 axe 0 0\nkind axe rides up": (4, 0),
    HEAD + "turn 0\npiece 0 axe 0 0\nstone": (4, 1), HEAD + "turn 0\npiece 0 axe 0 0\nstone 1": (4, 2),
    HEAD + "turn 0\npiece 0 axe 0 0\nstone 1 1 1": (4, 3), HEAD + "turn 0\npiece 0 axe 0 0\nstone 0 0": (4, 2),
    HEAD + "turn 0\npiece 0 axe 0 0\nstone 1 1\npiece 0 axe 2 2": (5, 0), HEAD + "turn 0\npiece 0 axe 0 0\nstone 1 1\n": (5, 0),
    HEAD + "turn 0\npiece 0 axe 0 0\nstone 1 1\nstone 1 0": (5, 2), HEAD + "turn 0\npiece 0 axe 0 0\nstone 1 1\nstone 1 1": (5, 2),
    HEAD + "turn 0\npiece 0 axe 0 0\npiece 0 axe 0 0": (4, 4), HEAD + "turn 0\npiece 1 axe 0 0\npiece 0 axe 1 0": (4, 4),
    HEAD + "turn 0\npiece 0 axe 1 0\npiece 0 axe 0 5\nstone 9 9": (5, 2), HEAD + "turn 0\npiece 0 axe 2 0\npiece 0 axe 11 0\nstone 9 x": (5, 2),
    "kind axe rides up\ngoal hold\nturn 0\npiece 0 axe 0 0": (3, 4), "kind axe rides up\ngoal take bow\nturn 0\npiece 0 axe 0 0": (3, 4),
    "kind axe rides up\ngoal reach low axe\nturn 0\npiece 0 axe 0 0\nstone 7 7": (4, 2),
    "kind bow rides up\nkind axe rides up\ngoal take axe\nturn 0\npiece 0 axe 0 0": (4, 4),
    "kind axe rides up\nkind axe rides up\ngoal take axe\nturn 0\npiece 0 axe 0 0": (4, 4),
    "kind axe rides up\nedge left 5\nedge right 4\ngoal take axe\nturn 0\npiece 0 axe 0 0": (5, 4),
    LORDS + "goal hold\nturn 0\npiece 0 chief 0 0": (5, 4), LORDS + "goal hold\nturn 0\npiece 1 chief 0 0\npiece 1 king 0 1": (6, 4),
    LORDS + "goal take axe\nturn 0\npiece 0 chief 0 0\npiece 0 chief 0 1\npiece 1 axe 9 9": (7, 4),
    LORDS + "goal take chief\nturn 0\npiece 0 chief 0 0": (5, 4),
    BOX + "piece 0 axe 0 -1": (7, 4), BOX + "piece 0 axe 10 0": (7, 4), BOX + "piece 0 axe 0 0\nstone -1 0": (8, 2),
    BOX + "piece 0 axe 0 0\nstone 0 10": (8, 2), BOX + "piece 0 axe 10 0\nstone 0 9": (8, 2),
}


class Texts(Bent, unittest.TestCase):
    values, is_of_position, right, bent = Position, True, TEXTS, BENT

    def test_some_there_and_back(self):
        chance = random.Random(31)
        for _ in range(300):
            places = [[chance.randint(-9, 9) * 10 ** chance.choice([0, 0, 3, 40]) for _ in range(5)] for _ in range(2)]
            position = some_position(chance, [sorted(set(place)) for place in places])
            self.assertTrue(Position.read(str(position)) == position)
            self.assertEqual(wanted_error(str(position), True), None)
            self.assertTrue(str(position).startswith(str(position.game) + f"\nturn {position.turn}\npiece "))

    def test_numbers_of_things(self):
        for pieces in (1, 2, 16, 17, 30):
            for stones in (0, 1, 16, 17):
                rows = [f"piece 0 axe {i} 0" for i in range(pieces)] + [f"stone {i} 1" for i in range(stones)]
                text = HEAD + "turn 0\n" + "\n".join(rows)
                if pieces <= 16 and stones <= 16:
                    self.assertEqual(str(Position.read(text)), text)
                else:
                    self.assert_bent(text, (2 + len(rows), 2 if stones else 4))

    def test_the_text_of_a_game_is_none(self):
        game = Game([Kind("a", AROUND)])
        assert_raises(self, BadText(2, 0), Position.read, str(game))
        assert_raises(self, BadText(2, 0), Game.read, list(TEXTS)[0])


if __name__ == "__main__":
    unittest.main()
