"""Positions that are alike for a number, what parts others, and positions that are cut."""

import random
import unittest
from itertools import product

from examples import assert_raises, run_examples
from gapsame import likeness
from gapsame.errors import BadNumber, BadPosition
from gapsame.games import Game, bound
from gapsame.kinds import Kind
from gapsame.likeness import Alike, Unlike, alike, alike_to, cut
from gapsame.lines import columns_of, gaps_of, laid, rows_of, stands_of
from gapsame.papers import Denial, Paper
from gapsame.positions import Position
from gapsame.strikes import strikers
from reference import NO_POSITIONS, bound_of, gaps_along, no_numbers, parts, some_position

EXAMPLES = """
>>> near = cut(far, 2)
>>> [near.pieces, columns_of(near), rows_of(near)]
[((0, 'runner', 0, 2), (0, 'runner', 15, 6), (0, 'runner', 23, 0), (1, 'chief', 8, 1)), (0, 8, 15, 23), (0, 1, 2, 6)]
>>> [alike(far, near, 2) == Alike(), alike(far, near, m=3).part, bool(alike(near, far, 3)), alike_to(far, near), alike_to(far, far), alike_to(far, wall)]
[True, 'columns', False, 2, 12, None]
>>> [alike(wall, other, 0).part, alike(wall, other, 1).part, cut(far, 3) == cut(near, 3), cut(far, 2) == cut(near, 2)]
['rows', 'columns', False, True]
>>> low = cut(wall, 1)
>>> [low.pieces, low.stones, low.game.edges, cut(cut(wall, 3), 1) == low]
[((0, 'chief', 3, 0), (0, 'runner', 7, 4), (1, 'chief', 1, 0)), ((11, 0),), (1, None, None, 7), True]
>>> [alike(far, wall, 5).part, alike(far, Position(far.game, far.pieces, (), 1), 0).part, alike(far, Position(far.game, [(1, "chief", 0, 0)]), 0).part]
['game', 'turn', 'pieces']
>>> alike(far, near, 13)
raises BadNumber('m')
>>> cut(far, True)
raises BadNumber('m')
"""
FAR = 10 ** 40
CHIEF = Kind("chief", [(1, 0), (-1, 0), (0, 1), (0, -1)], (), True)
RUNNER = Kind("runner", [], ["right", "left", "up", "down"])
AXE, BOW = Kind("axe", [(2, 1)]), Kind("bow", [(1, 0)])


def relaid(chance, position, gaps):
    """The position with each gap exchanged for what gaps tell of it, from any first line on."""
    told = []
    for axis in (0, 1):
        lines = [chance.randint(-FAR, FAR)]
        for gap in gaps_along(position, axis):
            lines.append(lines[-1] + gaps(gap))
        told.append(lines)
    return laid(position, *told)


class Papers(unittest.TestCase):
    def test_alike(self):
        for paper in (Alike(), alike(AXES, AXES, 0)):
            self.assertEqual((paper.word, paper.parts, bool(paper)), ("alike", (), True))
            self.assertIsInstance(paper, Alike)
            self.assertIsInstance(paper, Paper)
            self.assertNotIsInstance(paper, Denial)
        self.assertTrue(Alike() == Alike())
        self.assertFalse(Alike() == Paper("alike"))

    def test_unlike(self):
        for value in ("game", "columns", None, 5, True, "no such word"):
            paper = Unlike(value)
            self.assertEqual((paper.word, paper.parts, paper.part, bool(paper)), ("unlike", (value,), value, False))
            self.assertIsInstance(paper, Denial)
            self.assertTrue(paper == Unlike(part=value))
            self.assertFalse(paper == Denial("unlike", value))
            self.assertFalse(paper == Unlike("turn"))
            self.assertFalse(paper == Alike())
        self.assertEqual(Unlike([1, [2]]).part, (1, (2,)))
        self.assertEqual(Unlike(part=[1, [2]]).parts, ((1, (2,)),))


class Likeness(unittest.TestCase):
    def test_examples(self):
        runners = [(0, "runner", 10 ** 30, -1), (0, "runner", -10 ** 30, 1), (0, "runner", 7, 5)]
        far = Position(Game([CHIEF, RUNNER]), [(1, "chief", 0, 0), *runners])
        wall = Position(Game([CHIEF, RUNNER], (0, None, None, 50)), [(1, "chief", 0, 2), (0, "chief", 2, 2), (0, "runner", 9, 40)],
                        [(30, 2)])
        run_examples(self, EXAMPLES, {"far": far, "wall": wall, "other": laid(wall, (9, 10, 20, 30, 41), [-5, 0, 1]),
                                      "Position": Position, "columns_of": columns_of, "rows_of": rows_of, **vars(likeness)})

    def assert_parted(self, one, other, wanted=0):
        """That for each m is told what the reference tells; wanted, where it is given, for m 0."""
        told = [parts(one, other, m) for m in range(13)]
        if wanted != 0:
            self.assertEqual(told[0], wanted)
        for m, word in enumerate(told):
            for paper in (alike(one, other, m), alike(other, one, m), alike(one=one, other=other, m=m)):
                self.assertTrue(paper == (Alike() if word is None else Unlike(word)))
        greatest = max([m for m, word in enumerate(told) if word is None], default=None)
        self.assertEqual((alike_to(one, other), alike_to(other=one, one=other)), (greatest, greatest))
        for m, word in enumerate(told):
            self.assertIs(cut(one, m) == cut(other, m), word is None)

    def test_one_gap_at_and_beside_each_bound(self):
        for leap, m in product((1, 2, 3), range(13)):
            game = Game([Kind("axe", [(leap, 0)]), BOW], (None, None, 0, None), ("take", "axe"))
            most = bound(game, m)
            for many, there in product((1, 2, most - 1, most, most + 1, 2 * most - 1, 2 * most, FAR), repeat=2):
                one, other = [Position(game, [(0, "axe", 0, 0), (1, "bow", gap, 5)]) for gap in (many, there)]
                is_like = many == there or many >= most and there >= most
                self.assertTrue(alike(one, other, m) == (Alike() if is_like else Unlike("columns")))
                one, other = [Position(game, [(0, "axe", 0, gap - 1)]) for gap in (many, there)]
                self.assertTrue(alike(one, other, m) == (Alike() if is_like else Unlike("rows")))

    def test_what_parts(self):
        game = Game([CHIEF, RUNNER], (0, None, None, 50))
        pieces, stones = [(1, "chief", 0, 2), (0, "chief", 2, 2), (0, "runner", 9, 40)], [(30, 2)]
        one = Position(game, pieces, stones)
        for kinds, edges, goal in (([CHIEF, RUNNER, AXE], game.edges, game.goal), (game.kinds, (0, None, None, None), game.goal),
                                   (game.kinds, (0, 90, None, 50), game.goal), (game.kinds, game.edges, ("take", "runner")),
                                   (game.kinds, game.edges, ("reach", "left", "runner")),
                                   ([CHIEF, Kind("runner", [], ["up"])], game.edges, game.goal)):
            self.assert_parted(one, Position(Game(kinds, edges, goal), pieces, stones), "game")
            self.assert_parted(one, Position(Game(kinds, edges, goal), pieces[:1], (), 1), "game")
        self.assert_parted(one, Position(game, pieces, stones, 1), "turn")
        self.assert_parted(one, Position(game, pieces, (), 1), "turn")
        for others, there in ((pieces[:2], stones), (pieces, ()), (pieces, [(30, 40)]), (pieces, [(30, 2), (31, 2)]),
                              (pieces[:2] + [(1, "runner", 9, 40)], stones), (pieces[:2] + [(0, "runner", 9, 2)], stones),
                              ([(1, "chief", 2, 2), (0, "chief", 0, 2), pieces[2]], stones), (pieces, [(8, 2)]),
                              ([(1, "chief", 0, 40), (0, "chief", 2, 2), (0, "runner", 9, 2)], stones)):
            self.assert_parted(one, Position(game, others, there), "pieces")
        self.assert_parted(one, Position(game, pieces[:2] + [(0, "runner", 9, 50)], stones), "rows")
        self.assert_parted(one, Position(game, pieces[:2] + [(0, "runner", 3, 50)], stones), "columns")
        self.assert_parted(one, Position(Game(game.kinds, (-1, None, None, 50)), pieces, stones), "columns")
        self.assert_parted(one, Position(Game(game.kinds, (0, None, None, 40)), pieces, stones), "rows")
        self.assert_parted(one, Position(Game(game.kinds, (0, None, None, 60)), pieces, stones), None)

    def test_an_edge_exchanged_for_a_stone(self):
        one = Position(Game([AXE], (0, None, None, None), ("take", "axe")), [(0, "axe", 3, 0)])
        other = Position(Game([AXE], goal=("take", "axe")), [(0, "axe", 3, 0)], [(-1, 0)])
        self.assert_parted(one, other, "game")

    def test_some_pairs(self):
        chance = random.Random(91)
        likes = []
        for _ in range(80):
            edges = [chance.choice([None, edge]) for edge in (0, 40, 0, 40)]
            places = [sorted(chance.sample(range(41), chance.randint(2, 6))) for _ in range(2)]
            position = some_position(chance, places, edges)
            most = bound_of(position.game, chance.randint(0, 5))
            for gaps in (lambda gap: gap, lambda gap: min(gap, most), lambda gap: gap if gap < most else gap + FAR,
                         lambda gap: gap + (chance.random() < 0.2), lambda gap: max(1, gap - (chance.random() < 0.2)),
                         lambda gap: gap if gap < most else chance.randint(most, FAR), lambda gap: chance.randint(1, 2 * most)):
                other = relaid(chance, position, gaps)
                self.assert_parted(position, other)
                likes.append(alike_to(position, other))
            self.assertEqual(alike_to(position, position), 12)
        self.assertGreater(len(set(likes)), 4)

    def test_things_strike_alike(self):
        """Pieces that are alike for 0 strike the like things."""
        chance = random.Random(92)
        for _ in range(80):
            position = some_position(chance, (range(7), range(7)), [chance.choice([None, edge]) for edge in (0, 6, 0, 6)])
            other = relaid(chance, position, lambda gap: gap if gap < bound_of(position.game, 0) else gap + FAR)
            self.assertTrue(alike(position, other, 0))
            places = dict(zip(columns_of(position), columns_of(other))), dict(zip(rows_of(position), rows_of(other)))
            for (hand, _, column, row), by in product(position.pieces, (0, 1)):
                wanted = [(places[0][i], places[1][j]) for i, j in strikers(position, (column, row), by)]
                self.assertEqual(list(strikers(other, (places[0][column], places[1][row]), by)), sorted(wanted))


class Cut(unittest.TestCase):
    def test_cut(self):
        chance = random.Random(93)
        for _ in range(100):
            edges = [chance.choice([None, edge]) for edge in (-FAR, FAR, -90, 90)]
            places = [sorted(chance.sample(range(-90, 90), 5)) for _ in range(2)]
            position = relaid(chance, some_position(chance, places, edges), lambda gap: gap * chance.choice([1, 1, 50, 10 ** 20]))
            for m in range(13):
                near, most = cut(position=position, m=m), bound_of(position.game, m)
                self.assertEqual((columns_of(near)[0], rows_of(near)[0]), (0, 0))
                for axis in (0, 1):
                    self.assertEqual(list(gaps_of(near)[axis]), [min(gap, most) for gap in gaps_along(position, axis)])
                self.assertEqual(stands_of(near), stands_of(position))
                self.assertIs(parts(near, position, m), None)
                self.assertTrue(alike(position, near, m))
                self.assertTrue(cut(near, m) == near)

    def test_cut_twice(self):
        chance = random.Random(94)
        for _ in range(20):
            position = some_position(chance, [sorted(chance.sample(range(-999, 999), 5)) for _ in range(2)])
            for first, then in product(range(13), repeat=2):
                self.assertTrue(cut(cut(position, first), then) == cut(position, min(first, then)))

    def test_what_is_cut_stays(self):
        position = Position(Game([AXE], goal=("take", "axe")), [(0, "axe", 5, 5), (0, "axe", FAR, -FAR)], [(7, 7)], 1)
        text = str(position)
        self.assertEqual(cut(position, 0).pieces, ((0, "axe", 0, 3), (0, "axe", 5, 0)))
        self.assertEqual((cut(position, 0).stones, cut(position, 0).turn, str(position)), (((2, 5),), 1, text))


class Refused(unittest.TestCase):
    def test_refused(self):
        for value in NO_POSITIONS:
            for m in (0, None, 13):
                assert_raises(self, BadPosition("one"), alike, value, AXES, m)
                assert_raises(self, BadPosition("one"), alike, value, None, m)
                assert_raises(self, BadPosition("other"), alike, AXES, value, m)
                assert_raises(self, BadPosition("position"), cut, value, m)
            assert_raises(self, BadPosition("one"), alike_to, value, value)
            assert_raises(self, BadPosition("other"), alike_to, AXES, value)
        for m in no_numbers(0, 12):
            assert_raises(self, BadNumber("m"), alike, AXES, AXES, m)
            assert_raises(self, BadNumber("m"), alike, AXES, Position(AXES.game, AXES.pieces, (), 1), m)
            assert_raises(self, BadNumber("m"), cut, AXES, m)


AXES = Position(Game([AXE], goal=("take", "axe")), [(0, "axe", 0, 0), (1, "axe", 3, 4)])


if __name__ == "__main__":
    unittest.main()
