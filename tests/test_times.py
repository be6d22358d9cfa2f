"""Answers come in a short time where the document tells so: far less than the seconds that are allowed here."""

import random
import time
import unittest

from contests import FAR, all_let
from gapsame.books import Unwon, Won
from gapsame.check_wins import shows_win
from gapsame.chosen import are_chosen, chosen_moves
from gapsame.families import Family, family, settled, shows_family, tells
from gapsame.games import Game
from gapsame.kinds import Kind
from gapsame.likeness import cut
from gapsame.lines import gaps_of
from gapsame.plays import Play, carried
from gapsame.positions import Position
from gapsame.wins import is_won, judged
from reference import ALL_LEAPS, AROUND, RIDES

MOST = 8
CHIEF = Kind("chief", ALL_LEAPS, (), True)
WIDE = Game([CHIEF, Kind("rider", ALL_LEAPS, RIDES), Kind("hop", ALL_LEAPS)],
            (-10 ** 59, 10 ** 59, -10 ** 59, 10 ** 59))
SHORT = [Kind("chief", AROUND, (), True), Kind("hop", AROUND)]


class Times(unittest.TestCase):
    def timed(self, function, *values):
        """What the call returns, in a short time."""
        begin = time.perf_counter()
        value = function(*values)
        self.assertLess(time.perf_counter() - begin, MOST, function.__name__)
        return value

    def assert_in_time(self, position, n):
        paper = self.timed(judged, position, n)
        self.assertIs(self.timed(is_won, position, n), bool(paper))
        self.assertIs(self.timed(shows_win, position, n, paper), True)
        part = list(paper.parts[0])
        bent = Won([part[0], []]) if paper else Unwon(part[:-1])
        self.assertIn(self.timed(shows_win, position, n, bent), (True, False))
        moves = self.timed(chosen_moves, position, 2 * n)
        self.assertIs(self.timed(are_chosen, position, 2 * n, moves), True)
        if paper:
            near = cut(position, 2 * n)
            self.assertIs(self.timed(shows_win, near, n, self.timed(carried, position, near, n, paper)), True)
            play = self.timed(Play, position, n)
            self.timed(play.reply)
            if not play.is_over:
                self.timed(play.tell, all_let(play.position, 1)[-1])
                self.timed(play.reply)
            self.assertIs(play.is_over, True)
        return paper


class Within1(Times):
    def some(self, chance, goal):
        """Seven pieces, three of them riding, and four stones, with the longest leaps."""
        squares = set()
        while len(squares) < 11:
            squares.add((chance.randint(-60, 60) * 10 ** chance.choice([0, 1, 2, 18, 50]),
                         chance.randint(-60, 60) * 10 ** chance.choice([0, 1, 2, 18, 50])))
        squares = sorted(squares, key=lambda square: chance.random())
        names = ["rider"] * 3 + ["hop"] * 2
        pieces = [(1, "chief", *squares[0]), (0, "chief", *squares[1])]
        pieces += [(chance.choice([0, 0, 0, 1]), name, *square) for name, square in zip(names, squares[2:])]
        return Position(Game(WIDE.kinds, WIDE.edges, goal), pieces, squares[7:])

    def test_some(self):
        chance = random.Random(501)
        for goal in (("hold",), ("take", "hop"), ("take", "rider"), ("reach", "left", "rider"),
                     ("reach", "high", "hop")):
            for _ in range(4):
                self.assert_in_time(self.some(chance, goal), 1)

    def test_all_ride_about_one_chief(self):
        """The chief of hand 1 is struck by nearly each move."""
        pieces = [(1, "chief", 0, 0), (0, "rider", 40, 1), (0, "rider", -FAR, -1), (0, "rider", 2, FAR),
                  (1, "hop", 2, -2), (1, "hop", -2, 2),
                  (0, "hop", 4, 4)]
        self.assert_in_time(Position(WIDE, pieces, [(9, 9), (-9, 9), (9, -9), (-9, -9)]), 1)


class Within2(Times):
    def some(self, chance, rides, goal, hand):
        """Four pieces, one of which rides, and one stone, with one long gap of columns, and one of rows, at most."""
        columns, rows = self.lines(chance), self.lines(chance)
        squares = [(column, row) for column in columns for row in rows]
        chance.shuffle(squares)
        edges = [edge + by if chance.random() < 0.3 or goal[0] == "reach" and goal[1] == side else None for side, edge,
                 by in
                 (("left", columns[0], -1), ("right", columns[-1], 1), ("low", rows[0], -1), ("high", rows[-1], 1))]
        cart = Kind("cart", chance.choice([[], AROUND]), rides)
        pieces = [(1, "chief", *squares[0]), (0, "chief", *squares[1]), (hand, "cart", *squares[2]),
                  (chance.choice([hand, 1 - hand]), "hop", *squares[3])]
        position = Position(Game(SHORT + [cart], edges, goal), pieces, squares[4:5])
        return position if all(len([gap for gap in gaps if gap > 2]) <= 1 for gaps in gaps_of(position)) else None

    def lines(self, chance):
        gaps = [chance.choice([1, 1, 2]) for _ in range(4)]
        gaps[chance.randrange(4)] = chance.choice([1, 33, 100, FAR])
        lines = [chance.randint(-FAR, FAR)]
        for gap in gaps:
            lines.append(lines[-1] + gap)
        return lines

    def test_some(self):
        chance, words = random.Random(502), []
        for rides in (("right", "left"), ("left", "down"), ("up", "right"), ("up", "down")):
            for goal in (("hold",), ("take", "hop"), ("take", "cart"), ("reach", "left", "cart"),
                         ("reach", "high", "hop")):
                for hand in (0, 1):
                    position = self.some(chance, rides, goal, hand)
                    if position is not None:
                        words.append(self.assert_in_time(position, 2).word)
        self.assertGreater(min(words.count("won"), words.count("unwon")), 2)

    def test_held_far_from_all(self):
        """The chief of hand 1 stands in a corner, and the tower is far, in its column and in its row."""
        game = Game([Kind("chief", AROUND, (), True), Kind("tower", [], ["left", "down"])], (0, None, 0, None))
        pieces = [(1, "chief", 1, 0), (0, "chief", 1, 2)]
        for tower, stone in (((FAR, 2), (FAR, 1)), ((3, FAR), (4, 1)), ((FAR, FAR), (2, 4))):
            self.assert_in_time(Position(game, [*pieces, (0, "tower", *tower)], [stone]), 2)

    def test_plays_of_far_answers(self):
        """Hand 1 has the piece that rides, and may go as far as it likes."""
        kinds = [Kind("chief", AROUND, (), True), Kind("cart", [], ["right", "up"]), Kind("hop", AROUND),
                 Kind("post", [(1, 0)])]
        position = Position(Game(kinds, goal=("take", "post")),
                            [(0, "hop", 2, 2), (1, "post", 0, 0), (1, "cart", FAR, 1)])
        paper = self.assert_in_time(position, 2)
        self.assertTrue(paper)
        for end in ((FAR + 1, 1), (10 ** 59, 1), (FAR, 10 ** 59), (FAR, 2)):
            play = Play(position, 2)
            play.reply()
            self.timed(play.tell, ((FAR, 1), end))
            self.timed(play.reply)
            self.assertIs(play.is_over, True)


class Families(Times):
    """Five pieces, all of which but the chief ride and leap as far as may be, and two stones."""

    def some(self, chance, goal, far):
        squares = [(0, 0)]
        while len(squares) < 7:
            square = (chance.randint(-12, 12) * chance.choice([1, 1, 1, far]),
                      chance.randint(-12, 12) * chance.choice([1, 1, 1, far]))
            squares += [square] * (square not in squares)
        pieces = [(1, "chief", 0, 0)] + [(chance.choice([0, 0, 0, 0, 1]), "rider", *square) for square in squares[1:5]]
        return Position(Game(WIDE.kinds, WIDE.edges, goal), pieces, squares[5:])

    def test_some(self):
        chance = random.Random(503)
        for goal in (("hold",), ("hold",), ("take", "rider"), ("reach", "left", "rider")):
            for axis, far in (("columns", 1), ("rows", FAR)):
                position = self.some(chance, goal, far)
                index = chance.randrange(len(gaps_of(position)[0 if axis == "columns" else 1]))
                paper = self.timed(family, position, axis, index, 1)
                self.assertEqual(len(paper.papers), 16)
                self.assertIs(self.timed(shows_family, position, axis, index, 1, paper), True)
                self.assertIs(self.timed(shows_family, position, axis, index, 1,
                                         Family([one for one in paper.papers[:-1]] + [Unwon(())])), False)
                self.assertIs(self.timed(tells, paper, FAR), tells(paper, 16))
                self.assertIn(self.timed(settled, paper), range(1, 17))


if __name__ == "__main__":
    unittest.main()
