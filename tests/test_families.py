"""Positions grown at a gap, families of them, and what these tell."""

import random
import unittest

from contests import FAR, KINDS, some_contests, some_holds
from examples import assert_raises, run_examples
from gapsame import families
from gapsame.books import Unwon, Won
from gapsame.check_wins import shows_win
from gapsame.errors import BadNumber, BadPaper, BadPosition, BadWords, Misfit
from gapsame.families import Family, family, grown, settled, shows_family, tells
from gapsame.games import Game
from gapsame.kinds import Kind
from gapsame.likeness import Alike, alike
from gapsame.lines import gaps_of, stands_of
from gapsame.papers import Denial, Paper
from gapsame.positions import Position
from gapsame.wins import is_won, judged
from reference import NO_LISTS, NO_POSITIONS, bound_of, gaps_along, lines_of, no_numbers, stands_at

EXAMPLES = """
>>> [grown(corner, "columns", 1, 10 ** 9).pieces, grown(corner, "rows", 2, 1).pieces[1], grown(corner, "columns", 2, 7) == corner]
[((0, 'chief', 1000000000, 1), (0, 'runner', 1000000007, 9), (1, 'chief', 0, 0)), (0, 'runner', 9, 2), True]
>>> lane = Position(Game([runner], (None, 5, None, None), ("reach", "right", "runner")), [(0, "runner", 0, 0)])
>>> [grown(lane, "columns", 0, 100).game.edges, grown(position=lane, axis="columns", index=0, gap=1).game.edges]
[(None, 99, None, None), (None, 0, None, None)]
>>> told = family(corner, "columns", 1, 1)
>>> [len(told.papers), [bool(paper) for paper in told.papers[:4]], [tells(told, gap) for gap in (1, 2, 3, 10 ** 40)], settled(told)]
[8, [False, True, False, False], [False, True, False, False], 3]
>>> [shows_family(corner, "columns", 1, 1, value) for value in (told, Family(told.papers[:7]), Family(told.papers[::-1]), None)]
[True, False, False, False]
>>> [settled(family(corner, "columns", 2, n=1)), tells(family(corner, "rows", 2, 1), gap=8), settled(paper=family(corner, "columns", 0, 1))]
[1, True, 2]
>>> grown(corner, "column", 0, 3)
raises BadWords('axis')
>>> grown(corner, "columns", 3, 3)
raises BadNumber('index')
>>> tells(Family([]), 1)
raises BadPaper('paper')
"""
CHIEF, RUNNER, SLED, POST = [KINDS[name] for name in ("chief", "runner", "sled", "post")]
CORNER = Position(Game([CHIEF, RUNNER], (0, None, 0, None)),
                  [(1, "chief", 0, 0), (0, "chief", 2, 1), (0, "runner", 9, 9)])
CHASE = Position(Game([SLED, POST], goal=("take", "post")), [(0, "sled", 8, 7), (1, "post", 0, 0)])
LATE = Position(CORNER.game, CORNER.pieces, (), 1)
AXES = ("columns", "rows")
NO_AXES = (None, "", "column", "row", "Columns", "columns ", 0, True, ["columns"], ("columns",), ("columns", "rows"),
           {}, b"columns", object())
NO_FAMILIES = (*NO_LISTS, Won(()), Unwon(()), Alike(), Family, Paper("family", (Won(()),)),
               Denial("family", (Won(()),)), [Won(())], (Won(()),),
               Family(()), Family([]), Family(None), Family(Won(())), Family(5), Family([None]),
               Family([Won(()), None]), Family([True, False]),
               Family([Won(()), Alike()]), Family([Paper("won", ())]), Family([Denial("unwon", ())]),
               Family([Family([Won(())])]),
               Family([[Won(())]]), Family({}), Family("ab"), Family([Won]))


class Subfamily(Family):
    """A class of its own, below Family."""


class Grown(unittest.TestCase):
    def test_each_gap(self):
        chance = random.Random(601)
        for position in some_contests(chance, 30, 3, (1, 2, 5, FAR)):
            for axis, word in enumerate(AXES):
                for index, gap in enumerate(gaps_along(position, axis)):
                    for length in (1, 2, gap, gap + 1, FAR, 10 ** 59):
                        self.assert_grown(position, axis, word, index, length)

    def assert_grown(self, position, axis, word, index, length):
        other = grown(position, word, index, length)
        gaps = [list(gaps_along(position, 0)), list(gaps_along(position, 1))]
        gaps[axis][index] = length
        self.assertEqual([list(told) for told in gaps_of(other)], gaps)
        # What is ahead of the gap stays, and so does the other axis.
        self.assertEqual(lines_of(other, axis)[:index + 1], lines_of(position, axis)[:index + 1])
        self.assertEqual(lines_of(other, 1 - axis), lines_of(position, 1 - axis))
        self.assertEqual(stands_at(other), stands_at(position))
        self.assertEqual(stands_of(other), stands_of(position))
        self.assertTrue(other.game.kinds == position.game.kinds and other.game.goal == position.game.goal and other.turn == position.turn)
        self.assertEqual([edge is None for edge in other.game.edges], [edge is None for edge in position.game.edges])
        self.assertEqual(other == position, gaps_along(position, axis)[index] == length)
        self.assertTrue(grown(other, word, index, gaps_along(position, axis)[index]) == position)

    def test_edges_go_along(self):
        box = Position(Game([CHIEF], (0, 9, -5, 5)), [(1, "chief", 4, 0)])
        self.assertEqual(grown(box, "columns", 0, 1).game.edges, (0, 5, -5, 5))
        self.assertEqual(grown(box, "columns", 0, 1).pieces, ((1, "chief", 0, 0),))
        self.assertEqual(grown(box, "columns", 1, FAR).game.edges, (0, 3 + FAR, -5, 5))
        self.assertEqual(grown(box, "columns", 1, FAR).pieces, box.pieces)
        self.assertEqual(grown(box, "rows", 0, FAR).game.edges, (0, 9, -5, 5 + FAR - 6))
        self.assertEqual(grown(box, "rows", 1, 1).game.edges, (0, 9, -5, 0))
        self.assertEqual(grown(box, "rows", 1, 1).stones, ())
        stone = Position(box.game, box.pieces, [(9, 5), (0, -5)])
        self.assertEqual(grown(stone, "columns", 2, 3).stones, ((0, -5), (7, 5)))
        self.assertEqual(grown(stone, "columns", 2, 3).game.edges, (0, 7, -5, 5))

    def test_any_turn(self):
        self.assertTrue(grown(LATE, "rows", 1, 5).turn == 1)


class Families(unittest.TestCase):
    def test_examples(self):
        run_examples(self, EXAMPLES, {"corner": CORNER, "Game": Game, "Position": Position, "Kind": Kind,
                                      "runner": RUNNER, **vars(families)})

    def assert_family(self, position, word, index, n):
        paper = family(position, word, index, n)
        many = bound_of(position.game, 2 * n)
        self.assertIs(type(paper), Family)
        self.assertEqual((paper.word, paper.parts), ("family", (paper.papers,)))
        self.assertIsInstance(paper.papers, tuple)
        self.assertEqual(len(paper.papers), many)
        told = []
        for at, one in enumerate(paper.papers):
            there = grown(position, word, index, at + 1)
            self.assertIs(shows_win(there, n, one), True)
            self.assertTrue(one == judged(there, n))
            told.append(is_won(there, n))
        self.assertEqual([tells(paper, gap) for gap in range(1, many + 1)], told)
        for gap in (many + 1, 2 * many, FAR):
            self.assertIs(tells(paper, gap), is_won(grown(position, word, index, gap), n))
            self.assertTrue(alike(grown(position, word, index, gap), grown(position, word, index, many), 2 * n))
        least = settled(paper)
        self.assertEqual(set(told[least - 1:]), {told[-1]})
        self.assertTrue(least == 1 or told[least - 2] != told[-1])
        self.assertIs(shows_family(position, word, index, n, paper), True)
        self.assertTrue(family(position=position, axis=word, index=index, n=n) == paper)
        return told

    def test_within_1(self):
        chance, found = random.Random(602), []
        for position in some_contests(chance, 15, 2, (1, 2, 5, FAR)) + some_holds(chance, 15, (0, 1, 2, 9, FAR)):
            for axis, word in enumerate(AXES):
                for index in range(len(gaps_along(position, axis))):
                    found.append(self.assert_family(position, word, index, 1))
        self.assertGreater(len([told for told in found if len(set(told)) == 2]), 3)
        self.assertGreater(len([told for told in found if told[-1]]), 3)

    def test_longer_leaps(self):
        for leap in (1, 2, 3):
            game = Game([Kind("axe", [(leap, 0), (-1, 0)]), POST], goal=("take", "post"))
            position = Position(game, [(0, "axe", 0, 0), (1, "post", 9, 0)])
            told = self.assert_family(position, "columns", 0, 1)
            self.assertEqual(told, [gap == leap for gap in range(1, 4 * (leap + 1) + 1)])
            self.assertEqual(settled(family(position, "columns", 0, 1)), leap + 1)

    def test_within_2(self):
        self.assertEqual(self.assert_family(CHASE, "columns", 0, 2)[-1], True)
        self.assert_family(CHASE, "rows", 0, 2)
        told = self.assert_family(CORNER, "columns", 1, 2)
        self.assertIs(told[1], True)

    def test_shown(self):
        for position, word, index in ((CORNER, "columns", 1), (CORNER, "rows", 0), (CHASE, "columns", 0)):
            papers = family(position, word, index, 1).papers

            def assert_shown(other):
                is_right = len(other) == len(papers) and all(
                    shows_win(grown(position, word, index, at + 1), 1, paper) for at, paper in enumerate(other))
                self.assertIs(shows_family(position, word, index, 1, Family(other)), is_right)
                return is_right

            self.assertTrue(assert_shown(list(papers)))
            for at in range(len(papers)):
                head, paper, tail = papers[:at], papers[at], papers[at + 1:]
                for other in (head + tail, head + (paper, paper) + tail, head, papers + (paper,), papers + papers):
                    self.assertFalse(assert_shown(other))
                for other in (None, Won(()), Unwon(()), Won(5), Alike(), paper.parts[0], True,
                              Paper("won", paper.parts[0]), not paper, [paper]):
                    self.assertFalse(assert_shown(head + (other,) + tail))
                swapped = list(papers)
                swapped[at], swapped[at - 1] = papers[at - 1], papers[at]
                assert_shown(swapped)
            for value in (*NO_FAMILIES, papers, list(papers), Subfamily(papers), Paper("family", papers),
                          Family([papers])):
                self.assertIs(shows_family(position, word, index, 1, value), False)
            self.assertIs(shows_family(position, word, index, 2, Family(papers)), False)

    def test_other_right_papers(self):
        """A family need not be told by the papers that judged tells."""
        told = family(CORNER, "columns", 1, 1)
        papers = [paper if paper else Unwon(paper.replies[::-1]) for paper in told.papers]
        self.assertFalse(Family(papers) == told)
        self.assertIs(shows_family(CORNER, "columns", 1, 1, Family(papers)), True)


class Told(unittest.TestCase):
    def made(self, signs):
        return Family([Won(at) if sign == "y" else Unwon(at) for at, sign in enumerate(signs)])

    def test_made_by_hand(self):
        wanted = {"y": 1, "n": 1, "yy": 1, "nn": 1, "ny": 2, "yn": 2, "nny": 3, "nyn": 3, "ynn": 2, "yyy": 1,
                  "nyyyny": 6, "nnynnnnn": 4, "y" * 40 + "n": 41}
        for signs, least in wanted.items():
            paper = self.made(signs)
            self.assertEqual(settled(paper), least)
            self.assertEqual(settled(paper=paper), least)
            for gap in (*range(1, len(signs) + 1), len(signs) + 1, 100, FAR):
                self.assertIs(tells(paper, gap), signs[min(gap, len(signs)) - 1] == "y")
                self.assertIs(tells(gap=gap, paper=paper), tells(paper, gap))

    def test_papers(self):
        papers = [Won(()), Unwon(())]
        one, other = Family(papers), Family(tuple(papers))
        papers.append(Won(()))
        self.assertTrue(one == other and one == Family(papers=other.papers))
        self.assertEqual(len(one.papers), 2)
        self.assertIs(bool(one), True)
        self.assertIs(bool(Family(())), True)
        for value in (Family([]), Family(other.papers[::-1]), Paper("family", other.papers), Subfamily(other.papers),
                      other.papers, None):
            self.assertIs(one == value, False)
            self.assertIs(one != value, True)


class Refused(unittest.TestCase):
    def all(self, error, *values):
        """That grown, family and shows_family refuse the first arguments alike."""
        for more in ((5,), (None,)):
            assert_raises(self, error, grown, *values, *more)
        for n in (1, None):
            assert_raises(self, error, family, *values, n)
            assert_raises(self, error, shows_family, *values, n, None)

    def test_first_ones(self):
        for value in NO_POSITIONS:
            self.all(BadPosition("position"), value, "columns", 0)
            self.all(BadPosition("position"), value, None, None)
        for position in (CORNER, LATE):
            for axis in NO_AXES:
                self.all(BadWords("axis"), position, axis, 0)
                self.all(BadWords("axis"), position, axis, None)
            for index in no_numbers(0, 2):
                self.all(BadNumber("index"), position, "columns", index)
                self.all(BadNumber("index"), position, "rows", index)
        alone = Position(Game([SLED], goal=("take", "sled")), [(0, "sled", 5, 5)])
        for axis in AXES:
            self.all(BadNumber("index"), alone, axis, 0)
            self.all(BadNumber("index"), alone, axis, -1)

    def test_later_ones(self):
        for gap in (None, True, False, 0, -1, -FAR, "1", 1.0, [1], (), {}):
            assert_raises(self, BadNumber("gap"), grown, CORNER, "columns", 0, gap)
            assert_raises(self, BadNumber("gap"), tells, Family([Won(())]), gap)
        for n in no_numbers(1, 2):
            for position in (CORNER, LATE):
                assert_raises(self, BadNumber("n"), family, position, "rows", 2, n)
                assert_raises(self, BadNumber("n"), shows_family, position, "rows", 2, n, None)
        for n in (1, 2):
            assert_raises(self, Misfit("turn"), family, LATE, "rows", 2, n)
            assert_raises(self, Misfit("turn"), shows_family, LATE, "rows", 2, n, Family(()))

    def test_papers(self):
        for value in (*NO_FAMILIES, Subfamily([Won(())])):
            assert_raises(self, BadPaper("paper"), settled, value)
            for gap in (1, 0, None, FAR):
                assert_raises(self, BadPaper("paper"), tells, value, gap)


if __name__ == "__main__":
    unittest.main()
