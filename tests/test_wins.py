"""Who wins within 1 and 2: compared with all moves tried, on closed fields, and on fields without an end."""

import random
import unittest

from contests import FAR, KINDS, is_right_book, is_right_refusal, some_contests, some_holds, spread, wins
from examples import assert_raises, run_examples
from gapsame import wins as told_wins
from gapsame.books import Unwon, Won
from gapsame.errors import BadNumber, BadPosition, Misfit
from gapsame.games import Game
from gapsame.kinds import Kind
from gapsame.likeness import cut
from gapsame.moves import done, is_held, is_let, is_still, reached
from gapsame.positions import Position
from gapsame.turns import mirrored
from gapsame.wins import is_won, judged
from pairs import alike_pairs
from reference import NO_POSITIONS, no_numbers, some_position

EXAMPLES = """
>>> chief, runner = Kind("chief", [(0, 1), (1, 1), (1, 0), (1, -1), (0, -1), (-1, -1), (-1, 0), (-1, 1)], (), True), Kind("runner", [], ["right", "left", "up", "down"])
>>> game = Game([chief, runner])
>>> far = Position(game, [(1, "chief", 0, 0), (0, "runner", 10 ** 30, -1), (0, "runner", -10 ** 30, 1), (0, "runner", 7, 5)])
>>> [is_won(far, 1), judged(far, 1) == Won((((7, 5), (7, 0)), ())), judged(far, n=1).word]
[True, True, 'won']
>>> lone = Position(game, [(1, "chief", 0, 0), (0, "runner", 10 ** 30, -1), (0, "runner", 7, 5)])
>>> [is_won(lone, 1), judged(lone, 1).word, bool(judged(lone, 1)), [reply for move, reply in judged(lone, 1).replies if reply != ()]]
[False, 'unwon', False, []]
>>> guard, tower = Kind("guard", chief.leaps, (), True), Kind("tower", [], ["left", "down"])
>>> corner = Game([guard, tower], (0, None, 0, None))
>>> pinned = Position(corner, [(1, "guard", 1, 0), (0, "guard", 1, 2), (0, "tower", 10 ** 20, 5)], [(10 ** 20, 3)])
>>> [is_won(pinned, 1), is_won(pinned, 2), judged(pinned, 2).book]
[False, True, (((100000000000000000000, 5), (2, 5)), ((((1, 0), (0, 0)), (((2, 5), (2, 0)), ())),))]
>>> judged(Position(game, far.pieces, (), 1), 1)
raises Misfit('turn')
>>> is_won(far, 3)
raises BadNumber('n')
"""
CHIEF, RUNNER, SLED, HOP, POST = [KINDS[name] for name in ("chief", "runner", "sled", "hop", "post")]


def made(kinds, pieces, stones=(), edges=(None, None, None, None), goal=("hold",), turn=0):
    return Position(Game(kinds, edges, goal), pieces, stones, turn)


class Judging:
    def assert_judged(self, position, n, wanted):
        """That it is told whether the position is won, with a paper that is right."""
        self.assertIs(is_won(position, n), wanted, str(position))
        paper = judged(position=position, n=n)
        self.assertIs(bool(paper), wanted)
        if wanted:
            self.assertIs(type(paper), Won)
            self.assertTrue(is_right_book(position, n, paper.book), str(position))
        else:
            self.assertIs(type(paper), Unwon)
            self.assertTrue(is_right_refusal(position, n, paper.replies), str(position))
        again = Position(position.game, [list(piece) for piece in position.pieces[::-1]], position.stones[::-1], 0)
        self.assertTrue(judged(again, n) == paper)
        return paper


class Judged(Judging, unittest.TestCase):
    def test_examples(self):
        run_examples(self, EXAMPLES, {"Kind": Kind, "Game": Game, "Position": Position, "Won": Won, **vars(told_wins)})

    def setUp(self):
        self.chance = random.Random(201)

    def assert_all_judged(self, positions, n, many):
        """That all are judged as by all moves; so many at least are won, and as many are not."""
        counts = [0, 0]
        for position in positions:
            wanted = wins(position, n)
            counts[wanted] += 1
            self.assert_judged(position, n, wanted)
        self.assertGreaterEqual(min(counts), many)

    def test_near_fields(self):
        self.assert_all_judged(some_contests(self.chance, 120, 3, (1, 1, 2)), 1, 30)
        self.assert_all_judged(some_contests(self.chance, 40, 3, (1, 1, 2)), 2, 10)
        self.assert_all_judged(some_contests(self.chance, 25, 3, (1, 1, 1), 5), 2, 5)
        self.assert_all_judged(some_holds(self.chance, 100, (0, 1, 2, 3, 4, 5, 6)), 1, 4)
        holds = some_holds(self.chance, 90, (0, 1, 2, 3, 4))
        self.assert_all_judged([position for position in holds if position.game.edges[1]], 2, 4)

    def test_closed_fields_of_all_kinds(self):
        found = []
        while len(found) < 80:
            edges = (0, self.chance.randint(2, 4), 0, self.chance.randint(2, 4))
            position = some_position(self.chance, (range(edges[1] + 1), range(edges[3] + 1)), edges, 3, 5)
            if position.turn == 0:
                found.append(position)
        self.assert_all_judged(found, 1, 15)
        self.assert_all_judged([position for position in found if len(position.pieces) < 4][:25], 2, 4)

    def test_fields_without_an_end(self):
        self.assert_all_judged(some_contests(self.chance, 100, 3, (1, 1, 2, 3, 7, 8, 9, FAR)), 1, 20)
        self.assert_all_judged(some_contests(self.chance, 60, 3, (1, 2, 8, FAR), 5), 1, 10)
        self.assert_all_judged(some_holds(self.chance, 100, (1, 2, 4, 9, 10, 11, FAR)), 1, 4)
        self.assert_all_judged(some_contests(self.chance, 20, 3, (1, 1, 1, 2, 31, 32, FAR), 3), 2, 3)

    def test_longer_leaps(self):
        for leap in (2, 3):
            pairs = [pair for pair in alike_pairs(self.chance, 50, 2, leap) if pair[0].turn == 0]
            self.assert_all_judged([position for pair in pairs for position in pair], 1, 4)

    def test_the_same_is_won_in_all_that_are_alike(self):
        for n, gaps, many in ((1, (1, 2, 7, 8, 9, FAR), 150), (2, (1, 1, 1, 2, 31, 32, 33, FAR), 40)):
            counts = [0, 0]
            for position in some_contests(self.chance, many, 3, gaps):
                wanted = is_won(position, n)
                counts[wanted] += 1
                self.assertIs(is_won(cut(position, 2 * n), n), wanted)
                self.assertIs(is_won(spread(self.chance, position, 2 * n), n), wanted)
                self.assertIs(is_won(cut(position, 12), n), wanted)
            self.assertGreater(min(counts), 9)

    def test_won_within_1_is_won_within_2(self):
        for position in some_contests(self.chance, 60, 3, (1, 1, 2, FAR)):
            if is_won(position, 1):
                self.assertTrue(is_right_book(position, 2, judged(position, 2).book))


class Goals(Judging, unittest.TestCase):
    def test_hold_from_near_and_far(self):
        for far in (4, 9, FAR):
            pieces = [(1, "chief", 0, 0), (0, "runner", far, 1), (0, "runner", 5, 9)]
            edge = (None, None, 0, None)
            self.assert_judged(made([CHIEF, RUNNER], pieces, edges=edge), 1, True)
            self.assert_judged(made([CHIEF, RUNNER], pieces, [(-1, 0)], edge), 1, True)
            self.assert_judged(made([CHIEF, RUNNER], pieces, [(2, 0)], edge), 1, False)
            self.assert_judged(made([CHIEF, RUNNER], pieces + [(0, "chief", 3, 3)], edges=edge), 1, True)
            self.assert_judged(made([CHIEF, RUNNER], pieces + [(0, "chief", 3, 3), (1, "runner", 3, 9)], edges=edge), 1,
                               False)

    def test_still_is_not_held(self):
        """Behind some moves of the sled hand 1 has no let move, but its chief is not struck."""
        position = made([CHIEF, SLED], [(1, "chief", 0, 0), (0, "sled", 1, FAR), (0, "sled", FAR, 3)], [(0, 2)],
                        (0, None, 0, None))
        move = ((FAR, 3), (FAR, 1))
        still = done(position, move)
        self.assertTrue(is_still(still) and not is_held(still) and not reached(still))
        self.assertEqual(dict(self.assert_judged(position, 1, False).replies)[move], ())
        self.assertEqual(dict(self.assert_judged(position, 2, False).replies)[move], None)

    def test_no_answer_behind_a_move_is_unwon(self):
        """Hand 1 has one piece, which can go nowhere: each move of hand 0 ends it, unwon, as none reaches the goal."""
        box = made([SLED, POST], [(0, "sled", 5, 2), (1, "post", 0, 0)], [(1, 0)], goal=("take", "post"))
        paper = self.assert_judged(box, 2, False)
        self.assertEqual({reply for _, reply in paper.replies}, {None})
        self.assert_judged(made([SLED, POST], [(0, "sled", 5, 2), (1, "post", 0, 0)], goal=("take", "post")), 2, True)

    def test_held_behind_a_move_is_unwon(self):
        """The goal is to reach, so that a hand 1 which is held only ends it."""
        game = Game([CHIEF, RUNNER, SLED], (0, None, 0, None), ("reach", "low", "sled"))
        position = Position(game, [(1, "chief", 0, 0), (0, "runner", 1, FAR), (0, "runner", FAR, 2), (0, "sled", 7, 1)],
                            [(7, 0)])
        held = done(position, ((FAR, 2), (0, 2)))
        self.assertTrue(is_held(held) and not reached(held))
        self.assertIsNone(dict(self.assert_judged(position, 2, False).replies)[((FAR, 2), (0, 2))])
        self.assert_judged(position, 1, False)

    def test_just_as_near_as_a_leap_wants(self):
        """Of all squares of the row just one wins: the cart rides at the chief, and leaps to where this could go."""
        cart = Kind("cart", [(1, -1)], ["right"])
        for far in (3, 4, 9, 40, FAR):
            position = made([CHIEF, cart], [(1, "chief", 0, 0), (0, "cart", -far, 0)], [(0, -1)], (None, 0, None, 0))
            self.assertEqual(self.assert_judged(position, 1, True).book, (((-far, 0), (-2, 0)), ()))
            there = mirrored(position)
            self.assertEqual(self.assert_judged(there, 1, True).book, (((far, 0), (2, 0)), ()))
        position = made([CHIEF, cart], [(1, "chief", 0, 0), (0, "cart", -2, 0)], [(0, -1)], (None, 0, None, 0))
        self.assert_judged(position, 1, False)

    def test_take(self):
        for far in (2, 7, FAR):
            pieces = [(0, "sled", far, 0), (1, "post", 0, 0)]
            self.assert_judged(made([SLED, POST], pieces, goal=("take", "post")), 1, True)
            self.assert_judged(made([SLED, POST], pieces + [(1, "post", 0, 5)], goal=("take", "post")), 1, False)
            self.assert_judged(made([SLED, POST], pieces, [(1, 0)], goal=("take", "post")), 1, False)
            self.assert_judged(made([SLED, POST], pieces[:1], goal=("take", "post")), 1, True)

    def test_take_of_a_lord_is_no_way(self):
        position = made([CHIEF, SLED, POST], [(0, "sled", FAR, 0), (1, "chief", 0, 0), (1, "post", -1, 0)],
                        goal=("take", "post"))
        self.assert_judged(position, 1, False)

    def test_reach(self):
        for far in (2, 7, FAR):
            goal, edges = ("reach", "left", "sled"), (0, None, None, None)
            self.assert_judged(made([SLED], [(0, "sled", far, 0)], edges=edges, goal=goal), 1, True)
            self.assert_judged(made([SLED], [(0, "sled", far, 0)], [(0, 0)], edges, goal), 1, False)
            self.assert_judged(made([SLED, POST], [(0, "sled", far, 0), (1, "post", 0, 0)], [(0, 5)], edges, goal), 1,
                               True)
            self.assert_judged(made([SLED, POST], [(0, "sled", far, 0), (1, "post", 9, 9)], [(0, 0)], edges, goal), 2,
                               True)
            self.assert_judged(made([SLED], [(0, "sled", far, 0)], [(0, 0)], edges, goal), 2, False)

    def test_reached_before_and_behind(self):
        """It does not count that the goal is reached ahead of the move."""
        goal, edges = ("reach", "right", "hop"), (None, 5, None, None)
        self.assert_judged(made([HOP], [(0, "hop", 5, 0)], edges=edges, goal=goal), 1, True)
        stuck = made([POST], [(0, "post", 5, 0)], edges=edges, goal=("reach", "right", "post"))
        self.assertTrue(reached(stuck))
        for n in (1, 2):
            self.assertEqual(self.assert_judged(stuck, n, False).replies, ())

    def test_no_let_move(self):
        closed = made([CHIEF], [(1, "chief", 2, 0), (0, "chief", 0, 0)], edges=(0, 2, 0, 0))
        pinned = made([CHIEF, RUNNER], [(0, "chief", 0, 0), (1, "chief", 9, 9), (1, "runner", FAR, 0),
                                        (1, "runner", -FAR, 1), (1, "runner", 5, -1)])
        for position in (closed, pinned):
            for n in (1, 2):
                self.assertEqual(self.assert_judged(position, n, False).replies, ())

    def test_a_piece_that_bars_must_stay(self):
        pieces = [(0, "chief", 0, 0), (0, "runner", 0, 5), (1, "runner", 0, FAR), (1, "hop", 9, 5),
                  (1, "chief", 99, 99)]
        position = made([CHIEF, RUNNER, HOP], pieces, goal=("take", "hop"))
        self.assertFalse(is_let(position, ((0, 5), (9, 5))))
        self.assert_judged(position, 1, False)
        self.assert_judged(made([CHIEF, RUNNER, HOP], pieces[1:], goal=("take", "hop")), 1, True)

    def test_far_rides_of_hand_1(self):
        """One answer far away is enough to refuse, and it is near to something."""
        pieces = [(0, "sled", 5, FAR), (1, "runner", 7, 7)]
        position = made([SLED, RUNNER], pieces, goal=("take", "runner"))
        paper = self.assert_judged(position, 2, False)
        self.assertTrue(all(reply is not None for _, reply in paper.replies))


class Refused(unittest.TestCase):
    def both(self, error, *values):
        assert_raises(self, error, is_won, *values)
        assert_raises(self, error, judged, *values)

    def test_each(self):
        right = made([SLED], [(0, "sled", 0, 0)], goal=("take", "sled"))
        late = made([SLED], [(0, "sled", 0, 0)], goal=("take", "sled"), turn=1)
        for value in NO_POSITIONS:
            for n in (1, 3, None):
                self.both(BadPosition("position"), value, n)
        for n in no_numbers(1, 2):
            self.both(BadNumber("n"), right, n)
            self.both(BadNumber("n"), late, n)
        for n in (1, 2):
            self.both(Misfit("turn"), late, n)

    def test_what_is_passed_stays(self):
        position = made([CHIEF, RUNNER], [(1, "chief", 0, 0), (0, "runner", FAR, 1)])
        text = str(position)
        judged(position, 1)
        self.assertEqual(str(position), text)


if __name__ == "__main__":
    unittest.main()
