"""Games: how they are made, what is refused, in which order, and what is told of them."""

import unittest
from itertools import permutations, product

from examples import assert_raises, run_examples
from gapsame import games
from gapsame.errors import BadGame, BadNumber, BadSquare, NoName
from gapsame.games import Game, bound, longest, on_field
from gapsame.kinds import Kind
from reference import ALL_LEAPS, AROUND, NO_LISTS, NO_SQUARES, SIDES, bound_of, is_on, no_numbers

EXAMPLES = """
>>> around = [(0, 1), (1, 1), (1, 0), (1, -1), (0, -1), (-1, -1), (-1, 0), (-1, 1)]
>>> chief, runner, hopper = Kind("chief", around, (), True), Kind("runner", [], ["right", "left", "up", "down"]), Kind("hopper", [(2, 1), (-1, 2)])
>>> plain, walled = Game([runner, chief]), Game((hopper, runner), [0, None, -3, 8], ["reach", "left", "runner"])
>>> [[kind.name for kind in plain.kinds], plain.edges, plain.goal, walled.goal, walled.kind("hopper") == hopper]
[['chief', 'runner'], (None, None, None, None), ('hold',), ('reach', 'left', 'runner'), True]
>>> [on_field(plain, (-10 ** 40, 7)), on_field(walled, [0, 8]), on_field(walled, (-1, 0)), on_field(walled, (10 ** 40, 9))]
[True, True, False, False]
>>> [longest(plain), longest(walled), longest(Game([runner])), [bound(plain, m) for m in (0, 1, 4)], bound(walled, 2)]
[1, 2, 1, [2, 4, 32], 12]
>>> str(walled).split("\\n")
['kind hopper leaps -1 2 , 2 1', 'kind runner rides right left up down', 'edge left 0', 'edge low -3', 'edge high 8', 'goal reach left runner']
>>> [Game.read(str(walled)) == walled, Game.read("kind runner rides up\\ngoal hold").kinds[0].rides]
[True, ('up',)]
>>> Game([runner, chief], goal=("take", "chief"))
raises BadGame('goal')
>>> Game([runner], (3, 2, None, None))
raises BadGame('edges')
>>> Game.read("kind runner rides up up\\ngoal hold")
raises BadText(0, 4)
>>> Game.read("kind runner rides up\\nedge left")
raises BadText(1, 2)
>>> Game.read("kind runner rides up\\ngoal take hopper")
raises BadText(1, 2)
>>> Game.read("kind runner rides up")
raises BadText(1, 0)
"""
CHIEF, AXE, BOW = Kind("chief", AROUND, (), True), Kind("axe", [(1, 2)]), Kind("bow", [], ["up"])
EIGHT = [Kind(name, [(0, 1)]) for name in "hcafbged"]
FAR = 10 ** 60 - 1
BAD_KINDS = (*NO_LISTS, [], (), [None], ["axe"], [Kind], [AXE, None], [AXE, "bow"], [[AXE]], [AXE, AXE],
             [AXE, Kind("axe", [], ["up"])], [CHIEF, BOW, Kind("chief", [(0, 1)])], [*EIGHT, AXE], [*EIGHT, EIGHT[0]],
             {"axe": AXE}, AXE, iter([AXE]), "axe bow")
BAD_EDGES = (*NO_LISTS, [], [None] * 3, [None] * 5, [0, 1, 2], [0, 1, 2, 3, 4], [True, None, None, None],
             [None, False, None, None], [None, None, "0", None], [None, None, None, 1.0], [(0,), None, None, None],
             [1, 0, None, None], [None, None, 1, 0], [FAR, FAR - 1, None, None], [0, 1, -FAR, -FAR - 1],
             [0, 1, 1, 0], {0: None, 1: None, 2: None, 3: None}, iter([None] * 4))
BAD_GOALS = (*NO_LISTS, [], (), "hold", ["hold", "axe"], ["hold", None], ["Hold"], [None], [["hold"]], ["held"], ["take"],
             ["take", "cart"], ["take", "chief"], ["take", ["axe"]], ["take", None], ["take", AXE], ["take", "axe", "axe"],
             ["axe"], ["reach"], ["reach", "left"], ["reach", "axe"], ["reach", "right", "axe"], ["reach", "high", "axe"],
             ["reach", "left", "cart"], ["reach", "left", None], ["reach", None, "axe"], ["reach", "axe", "left"],
             ["reach", ["left"], "axe"], ["reach", "up", "axe"], ["reach", "left", "axe", "bow"], {"hold"}, {"hold": 1},
             ["take", True], ["reach", 0, "axe"], [True], ["hold "], ["", "axe"], [b"hold"])


class Made(unittest.TestCase):
    def test_examples(self):
        run_examples(self, EXAMPLES, {"Kind": Kind, **vars(games)})

    def assert_game(self, game, kinds, edges, goal):
        self.assertEqual([kind.name for kind in game.kinds], sorted([kind.name for kind in kinds]))
        for kind in kinds:
            self.assertTrue(kind in game.kinds)
        self.assertEqual((game.edges, game.goal), (edges, goal))
        for value in (game.kinds, game.edges, game.goal):
            self.assertIsInstance(value, tuple)

    def test_by_place_and_by_name(self):
        none = (None, None, None, None)
        self.assert_game(Game([AXE]), [AXE], none, ("hold",))
        self.assert_game(Game((BOW, AXE), (1, 1, 2, 2)), [AXE, BOW], (1, 1, 2, 2), ("hold",))
        self.assert_game(Game([BOW], none, ["take", "bow"]), [BOW], none, ("take", "bow"))
        self.assert_game(Game(goal=("reach", "high", "axe"), edges=[None, None, None, 5], kinds=[AXE]), [AXE],
                         (None, None, None, 5), ("reach", "high", "axe"))
        self.assert_game(Game(kinds=[AXE], goal=["hold"]), [AXE], none, ("hold",))

    def test_kinds_in_any_order(self):
        for many in range(1, 9):
            kinds = EIGHT[:many]
            for passed in (kinds, tuple(kinds), kinds[::-1], sorted(kinds, key=lambda kind: kind.name)):
                self.assert_game(Game(passed), kinds, (None,) * 4, ("hold",))
        for kinds in permutations([CHIEF, AXE, BOW]):
            self.assertTrue(Game(kinds) == Game([CHIEF, AXE, BOW]))

    def test_edges(self):
        for edges in product((None, -FAR, 0, 7, FAR), repeat=4):
            left, right, low, high = edges
            is_right = (None in (left, right) or left <= right) and (None in (low, high) or low <= high)
            if is_right:
                self.assertEqual(Game([AXE], list(edges)).edges, edges)
            else:
                assert_raises(self, BadGame("edges"), Game, [AXE], edges)

    def test_goals(self):
        kinds = [CHIEF, AXE, BOW]
        for name in ("axe", "bow"):
            self.assertEqual(Game(kinds, goal=["take", name]).goal, ("take", name))
        for at, side in enumerate(SIDES):
            for name in ("chief", "axe", "bow"):
                edges = [None] * 4
                assert_raises(self, BadGame("goal"), Game, kinds, edges, ("reach", side, name))
                edges[at] = 0
                self.assertEqual(Game(kinds, edges, ["reach", side, name]).goal, ("reach", side, name))
                others = [0] * 4
                others[at] = None
                assert_raises(self, BadGame("goal"), Game, kinds, others, ("reach", side, name))

    def test_changed_afterwards(self):
        kinds, edges, goal = [BOW, AXE], [0, None, None, None], ["reach", "left", "axe"]
        game = Game(kinds, edges, goal)
        kinds.append(CHIEF)
        edges[1] = 5
        goal[2] = "bow"
        self.assert_game(game, [AXE, BOW], (0, None, None, None), ("reach", "left", "axe"))
        self.assertTrue(game == Game([AXE, BOW], (0, None, None, None), ("reach", "left", "axe")))
        assert_raises(self, NoName("chief"), game.kind, "chief")

    def test_what_is_passed_does_not_change(self):
        kinds, edges, goal = [BOW, AXE], [0, None, None, None], ["reach", "left", "axe"]
        Game(kinds, edges, goal)
        self.assertEqual([kind.name for kind in kinds], ["bow", "axe"])
        self.assertEqual((edges, goal), ([0, None, None, None], ["reach", "left", "axe"]))


class Refused(unittest.TestCase):
    def test_kinds(self):
        for kinds in BAD_KINDS:
            with self.subTest(kinds=kinds):
                assert_raises(self, BadGame("kinds"), Game, kinds)

    def test_edges(self):
        for edges in BAD_EDGES:
            with self.subTest(edges=edges):
                assert_raises(self, BadGame("edges"), Game, [AXE], edges)

    def test_goals(self):
        for goal in BAD_GOALS:
            with self.subTest(goal=goal):
                assert_raises(self, BadGame("goal"), Game, [CHIEF, AXE, BOW], (0, None, 0, None), goal)

    def test_which_is_due_first(self):
        due = (BadGame("kinds"), BadGame("edges"), BadGame("goal"))
        for wrong in (([AXE, AXE], (1, 0, None, None), ("take", "cart")), (None, None, None)):
            for bent in product((True, False), repeat=3):
                if any(bent):
                    right = ([AXE], (0, None, None, None), ("take", "axe"))
                    values = [bad if is_bent else good for bad, good, is_bent in zip(wrong, right, bent)]
                    assert_raises(self, due[bent.index(True)], Game, *values)


class Told(unittest.TestCase):
    def test_kind(self):
        game = Game([CHIEF, AXE, BOW])
        for kind in (CHIEF, AXE, BOW):
            self.assertTrue(game.kind(kind.name) == kind)
            self.assertTrue(game.kind(name=kind.name) == kind)
        for name in ("cart", "Axe", "axe ", "", None, True, 0, 1, AXE, b"axe"):
            assert_raises(self, NoName(name), game.kind, name)
        for name in (["axe"], {"axe": 1}, {"axe"}):
            with self.assertRaises(NoName) as caught:
                game.kind(name)
            self.assertIs(caught.exception.value, name)

    def test_on_field(self):
        values = (-FAR, -6, -5, -4, -1, 0, 1, 2, 3, 4, FAR)
        for edges in ((None,) * 4, (-5, None, None, 3), (None, 3, -5, None), (-5, 3, -5, 3), (0, 0, 1, 1),
                      (-FAR, FAR, None, None), (None, None, FAR, None)):
            game = Game([AXE], edges)
            for square in product(values, repeat=2):
                self.assertIs(on_field(game, square), is_on(game, square))
                self.assertIs(on_field(game=game, square=list(square)), is_on(game, square))

    def test_on_field_refuses(self):
        for game in (None, "game", [AXE], AXE, Game, ()):
            for square in ((0, 0), None):
                assert_raises(self, BadGame("game"), on_field, game, square)
        for square in NO_SQUARES:
            assert_raises(self, BadSquare("square"), on_field, Game([AXE]), square)

    def test_longest(self):
        self.assertEqual(longest(Game([BOW])), 1)
        for leap in ALL_LEAPS:
            far = max(abs(leap[0]), abs(leap[1]))
            self.assertEqual(longest(Game([BOW, Kind("axe", [leap], ["up"])])), far)
            self.assertEqual(longest(game=Game([Kind("bow", [(0, 2)]), Kind("axe", [leap])])), max(2, far))
            self.assertEqual(longest(Game([Kind("axe", [leap], (), True), Kind("cart", [(1, 0)]), BOW])), far)
        for value in (None, AXE, [AXE], "axe"):
            assert_raises(self, BadGame("game"), longest, value)

    def test_bound(self):
        for far, leap in ((1, (0, -1)), (2, (-2, 1)), (3, (1, 3))):
            game = Game([Kind("axe", [leap]), BOW])
            for m in range(13):
                self.assertEqual(bound(game, m), (far + 1) * 2 ** m)
                self.assertEqual(bound(m=m, game=game), bound_of(game, m))
            for m in no_numbers(0, 12):
                assert_raises(self, BadNumber("m"), bound, game, m)
        self.assertEqual([bound(Game([BOW]), m) for m in (0, 12)], [2, 8192])
        for m in (0, None):
            assert_raises(self, BadGame("game"), bound, None, m)


class Equal(unittest.TestCase):
    def test_equal(self):
        game = Game([AXE, BOW], (0, None, None, 5), ("reach", "left", "bow"))
        for other in (Game((BOW, AXE), [0, None, None, 5], ["reach", "left", "bow"]), game,
                      Game([Kind("axe", [[1, 2]]), Kind("bow", (), ("up",))], game.edges, game.goal)):
            self.assertIs(game == other, True)
            self.assertIs(game != other, False)

    def test_unlike(self):
        game = Game([AXE, BOW], (0, None, None, 5), ("reach", "left", "bow"))
        for other in (Game([AXE, BOW, CHIEF], game.edges, game.goal), Game([BOW], game.edges, game.goal),
                      Game([AXE, Kind("bow", [], ["down"])], game.edges, game.goal),
                      Game([AXE, BOW], (1, None, None, 5), game.goal), Game([AXE, BOW], (0, 9, None, 5), game.goal),
                      Game([AXE, BOW], (0, None, None, None), game.goal), Game([AXE, BOW], game.edges),
                      Game([AXE, BOW], game.edges, ("reach", "high", "bow")),
                      Game([AXE, BOW], game.edges, ("reach", "left", "axe")),
                      Game([AXE, BOW], game.edges, ("take", "bow"))):
            self.assertIs(game == other, False)
            self.assertIs(other == game, False)
            self.assertIs(game != other, True)

    def test_other_values(self):
        game = Game([AXE])
        for other in (None, "axe", str(game), AXE, (game.kinds, game.edges, game.goal), [AXE], True, 1, Game):
            self.assertIs(game == other, False)
            self.assertIs(other == game, False)


if __name__ == "__main__":
    unittest.main()
