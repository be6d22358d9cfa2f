"""Carried books, and plays to the end against near and far answers."""

import random
import unittest

from contests import FAR, KINDS, is_right_book, is_right_refusal, lists, some_contests, some_holds, spread
from examples import assert_raises, run_examples
from gapsame import plays
from gapsame.books import Unwon, Won
from gapsame.check_wins import shows_win
from gapsame.errors import BadMove, BadNumber, BadPaper, BadPosition, Misfit, Over
from gapsame.games import Game
from gapsame.kinds import Kind
from gapsame.likeness import alike_to, cut
from gapsame.moves import done, is_let, may_go, reached
from gapsame.papers import Paper
from gapsame.plays import Play, carried
from gapsame.positions import Position
from gapsame.wins import is_won, judged
from pairs import telling_moves
from reference import NO_LISTS, NO_MOVES, NO_POSITIONS, no_numbers

EXAMPLES = """
>>> lord, runner = Kind("chief", [(-1, -1), (-1, 0), (-1, 1), (0, -1), (0, 1), (1, -1), (1, 0), (1, 1)], (), True), Kind("runner", [], ["right", "left", "up", "down"])
>>> game = Game([lord, runner], (0, None, 0, None), ("hold",))
>>> corner = Position(game, [(1, "chief", 0, 0), (0, "chief", 2, 1), (0, "runner", 9, 9)])
>>> far = Position(game, [(1, "chief", 0, 0), (0, "chief", 2, 1), (0, "runner", 10 ** 30, 10 ** 20)])
>>> play = Play(far, 1)
>>> [play.left, play.reply() == ((10 ** 30, 10 ** 20), (0, 10 ** 20)), play.left, play.is_over, play.position.turn]
[1, True, 0, True, 1]
>>> play.reply()
raises Over
>>> near = cut(far, 2)
>>> carried(near, far, 1, judged(near, 1)).book == (((10 ** 30, 10 ** 20), (0, 10 ** 20)), ())
True
>>> carried(far, near, 1, judged(near, 1))
raises BadPaper('paper')
>>> carried(near, corner, 1, judged(near, 1))
raises Misfit('other')
>>> sled, post = Kind("sled", [], ["left", "down"]), Kind("post", [(1, 0)])
>>> chase = Position(Game([sled, post], goal=("take", "post")), [(0, "sled", 10 ** 20, 7), (1, "post", 0, 0)])
>>> race = Play(position=chase, n=2)
>>> [race.reply()[0], race.left, race.is_over, race.tell(move=((0, 0), [1, 0])), race.reply()[1], race.is_over]
[(100000000000000000000, 7), 1, False, None, (1, 0), True]
>>> Play(chase, 1)
raises Misfit('position')
>>> Play(chase, 2).tell(((0, 0), (1, 0)))
raises Misfit('turn')
"""
CHIEF, RUNNER, SLED, POST, HOP = [KINDS[name] for name in ("chief", "runner", "sled", "post", "hop")]
CHASE = Position(Game([SLED, POST], goal=("take", "post")), [(0, "sled", FAR, 7), (1, "post", 0, 0)])
CORNER = Game([CHIEF, RUNNER], (0, None, 0, None))
HELD = Position(CORNER, [(1, "chief", 0, 0), (0, "chief", 2, 1), (0, "runner", FAR, FAR)])
OPEN = Position(CORNER, [(1, "chief", 5, 5), (0, "chief", 9, 1), (0, "runner", FAR, FAR)])
# Hand 1 has a runner that goes as far as it likes, and hand 0 takes another piece within 2, whatever that runner does.
WIDE = Position(Game([SLED, POST, RUNNER], goal=("take", "post")),
                [(0, "sled", FAR, 7), (1, "post", 0, 0), (1, "runner", -9, -FAR)])


def won_contests():
    """Some positions with each n within which they are won, but not within less."""
    chance = random.Random(401)
    short = some_contests(chance, 80, 3, (1, 1, 2, 7, 8, 9, FAR))
    short += some_holds(chance, 200, (0, 1, 2, 8, 9, 10, 20, FAR))
    long = some_contests(chance, 150, 3, (1, 1, 1, 2, 33, FAR))
    long += some_holds(chance, 80, (0, 1, 2, 5, 33, 34, 35, 36, FAR))
    found = [(1, position) for position in short if is_won(position, 1)]
    return found + [(2, position) for position in long if not is_won(position, 1) and is_won(position, 2)]


WON = won_contests()


class Carried(unittest.TestCase):
    def test_there_are_such(self):
        for n in (1, 2):
            goals = [position.game.goal[0] for many, position in WON if many == n]
            self.assertGreater(min([goals.count(goal) for goal in ("hold", "take", "reach")]), 1, goals)

    def assert_carried(self, one, other, n, paper):
        """That the paper that is carried is right for the other position."""
        there = carried(one, other, n, paper)
        self.assertIs(type(there), Won)
        self.assertIs(shows_win(other, n, there), True)
        self.assertTrue(is_right_book(other, n, there.book))
        self.assertTrue(carried(one=one, other=other, n=n, paper=Won(lists(paper.book))) == there)
        return there

    def test_there_and_back(self):
        chance = random.Random(402)
        for n, one in WON:
            other, near = spread(chance, one, 2 * n), cut(one, 2 * n)
            paper = judged(one, n)
            there = self.assert_carried(one, other, n, paper)
            self.assert_carried(other, one, n, there)
            small = self.assert_carried(one, near, n, paper)
            self.assert_carried(near, one, n, small)
            self.assert_carried(near, other, n, judged(near, n))
            self.assertTrue(self.assert_carried(one, one, n, paper) == carried(one, one, n, paper))

    def test_short_books_within_2(self):
        """A book without answers is carried within 2 as well, between positions that are alike for 4."""
        other = Position(CORNER, [(1, "chief", 0, 0), (0, "chief", 2, 1), (0, "runner", 34, 33)])
        book = (((FAR, FAR), (0, FAR)), ())
        self.assertEqual(alike_to(HELD, other), 4)
        self.assertEqual(self.assert_carried(HELD, other, 2, Won(book)).book, (((34, 33), (0, 33)), ()))
        other = Position(CORNER, [(1, "chief", 0, 0), (0, "chief", 2, 1), (0, "runner", 33, 33)])
        self.assertEqual(alike_to(HELD, other), 3)
        assert_raises(self, Misfit("other"), carried, HELD, other, 2, Won(book))

    def test_answers_that_are_matched(self):
        """A right book with two answers that are matched with one another is carried, too."""
        first = ((FAR, 7), (FAR, 0))
        later = done(WIDE, first)
        answers = sorted({move for move in telling_moves(later, 9) if is_let(later, move)})
        book = (first, [(answer, judged(done(later, answer), 1).book) for answer in answers])
        self.assertIs(shows_win(WIDE, 2, Won(book)), True)
        near = cut(WIDE, 4)
        self.assert_carried(WIDE, near, 2, Won(book))
        self.assert_carried(near, WIDE, 2, judged(near, 2))

    def test_first_moves_as_near_as_they_were(self):
        """Of a book within 2 a first move 15 squares off a line is carried to one just as far off."""
        game = Game([SLED, POST], (0, None, None, None), ("reach", "left", "sled"))
        one, other = [Position(game, [(0, "sled", far, 7), (1, "post", 9, high)], [(0, 7)]) for far, high in ((FAR, 60), (99, FAR))]
        for row in (8, -1, -8, -9, -50):
            first, answer = ((FAR, 7), (FAR, row)), ((9, 60), (10, 60))
            paper = Won((first, [(answer, (((FAR, row), (0, row)), ()))]))
            if row == 8:
                assert_raises(self, BadPaper("paper"), carried, one, other, 2, paper)
            else:
                there = self.assert_carried(one, other, 2, paper)
                self.assertEqual(there.book[0], ((99, 7), (99, max(row, -9))))
                self.assertEqual(there.book[1][0][0], ((9, FAR), (10, FAR)))

    def test_papers_refused(self):
        book, other = judged(HELD, 1).book, cut(HELD, 4)
        papers = (None, book, Won(None), Won(()), Won(book[:1]), Won(((book[0][0], (FAR, 0)), ())), Unwon(()),
                  Unwon(book), Paper("won", book),
                  judged(CHASE, 2), *NO_LISTS)
        for paper in papers:
            for n in (1, 2):
                assert_raises(self, BadPaper("paper"), carried, HELD, other, n, paper)
                assert_raises(self, BadPaper("paper"), carried, HELD, CHASE, n, paper)
        refusal = judged(OPEN, 1)
        self.assertIs(shows_win(OPEN, 1, refusal), True)
        assert_raises(self, BadPaper("paper"), carried, OPEN, OPEN, 1, refusal)
        assert_raises(self, BadPaper("paper"), carried, CHASE, cut(CHASE, 4), 1, judged(CHASE, 2))
        self.assert_carried(CHASE, cut(CHASE, 4), 2, judged(CHASE, 2))

    def test_turns(self):
        late, paper = Position(CORNER, HELD.pieces, (), 1), judged(HELD, 1)
        for n in (1, 2):
            assert_raises(self, BadPaper("paper"), carried, late, HELD, n, paper)
            assert_raises(self, BadPaper("paper"), carried, late, late, n, paper)
            assert_raises(self, Misfit("other"), carried, HELD, late, n, paper)

    def test_others_that_are_not_alike(self):
        paper = judged(HELD, 1)
        for gap, n, is_alike in ((7, 1, False), (8, 1, True), (9, 2, False), (31, 2, False), (32, 2, True)):
            other = Position(CORNER, [(1, "chief", 0, 0), (0, "chief", 2, 1), (0, "runner", 2 + gap, 1 + gap)])
            if is_alike:
                self.assert_carried(HELD, other, n, paper)
            else:
                assert_raises(self, Misfit("other"), carried, HELD, other, n, paper)

    def test_first_refusals(self):
        paper = judged(HELD, 1)
        for value in NO_POSITIONS:
            assert_raises(self, BadPosition("one"), carried, value, value, None, None)
            assert_raises(self, BadPosition("one"), carried, value, HELD, 1, paper)
            assert_raises(self, BadPosition("other"), carried, HELD, value, None, None)
            assert_raises(self, BadPosition("other"), carried, HELD, value, 1, paper)
        for n in no_numbers(1, 2):
            assert_raises(self, BadNumber("n"), carried, HELD, HELD, n, None)
            assert_raises(self, BadNumber("n"), carried, HELD, CHASE, n, paper)


class Plays(unittest.TestCase):
    def test_examples(self):
        run_examples(self, EXAMPLES, {"Kind": Kind, "Game": Game, "Position": Position, "cut": cut, "judged": judged,
                                      **vars(plays)})

    def assert_stands(self, play, position, left, is_over):
        """That the play is at this position, and what it is to do holds there."""
        self.assertTrue(play.position == position)
        self.assertEqual(play.left, left)
        self.assertIs(play.is_over, is_over)
        if is_over:
            self.assertTrue(reached(position))
        elif position.turn == 0:
            self.assertIs(is_won(position, left), True)
        else:
            self.assertGreaterEqual(left, 1)

    def answers_at(self, play, chance, most):
        """Let moves of hand 1 at the play: some of those that tell, and far ones."""
        moves = sorted({move for move in telling_moves(play.position, 9) if is_let(play.position, move)})
        return chance.sample(moves, min(len(moves), most))

    def play_on(self, begin, n, told, chance, most):
        """Plays, told these moves, and then each of some answers, to the end."""
        play, twin, position = Play(begin, n), Play(position=begin, n=n), begin
        self.assert_stands(play, position, n, False)
        for at in range(n):
            move = play.reply()
            self.assertEqual(twin.reply(), move)
            self.assertIs(is_let(position, move), True)
            position = done(position, move)
            self.assert_stands(play, position, n - at - 1, reached(position))
            if play.is_over:
                return
            if at == len(told):
                answers = self.answers_at(play, chance, most)
                self.assertTrue(answers)
                for answer in answers:
                    self.play_on(begin, n, [*told, answer], chance, most)
                return
            self.assertIs(play.tell(told[at]), None)
            self.assertIs(twin.tell(lists(told[at])), None)
            position = done(position, told[at])
            self.assert_stands(play, position, n - at - 1, False)
        self.fail("the goal is not reached by the last reply")

    def test_plays_to_the_end(self):
        chance = random.Random(403)
        for n, one in WON:
            for position in (one, spread(chance, one, 2 * n), cut(one, 2 * n)):
                self.play_on(position, n, [], chance, 5)
        for position in (HELD, CHASE, WIDE):
            self.play_on(position, 2, [], chance, 60)

    def test_won_within_1_is_over_within_1_or_2(self):
        play = Play(HELD, 2)
        while not play.is_over:
            play.reply()
            if not play.is_over:
                play.tell(self.answers_at(play, random.Random(1), 1)[0])
        self.assertIn(play.left, (0, 1))

    def test_very_far_answers(self):
        first = Play(WIDE, 2)
        move = first.reply()
        for end in ((10 ** 59, -FAR), (-10 ** 59, -FAR), (-9, -10 ** 59), (-9, 10 ** 59), (-8, -FAR)):
            play = Play(WIDE, 2)
            self.assertEqual(play.reply(), move)
            play.tell([[-9, -FAR], list(end)])
            self.assertEqual(play.position.pieces[1], (1, "post", 0, 0))
            play.reply()
            self.assertIs(play.is_over, True)

    def test_begin(self):
        play = Play(CHASE, 2)
        self.assertIs(play.position == CHASE, True)
        self.assertEqual((play.left, play.is_over), (2, False))
        text = str(CHASE)
        play.reply()
        self.assertEqual(str(CHASE), text)
        self.assertIs(Play(CHASE, 2).position == CHASE, True)

    def test_refused_begins(self):
        for value in NO_POSITIONS:
            for n in (1, None):
                assert_raises(self, BadPosition("position"), Play, value, n)
        late = Position(CORNER, HELD.pieces, (), 1)
        for n in no_numbers(1, 2):
            assert_raises(self, BadNumber("n"), Play, HELD, n)
            assert_raises(self, BadNumber("n"), Play, late, n)
        assert_raises(self, Misfit("turn"), Play, late, 1)
        for n in (1, 2):
            assert_raises(self, Misfit("turn"), Play, Position(CORNER, OPEN.pieces, (), 1), n)
            assert_raises(self, Misfit("position"), Play, OPEN, n)
        assert_raises(self, Misfit("position"), Play, CHASE, 1)
        self.assertFalse(is_right_refusal(CHASE, 2, judged(CHASE, 1).replies))


class RefusedMoves(unittest.TestCase):
    def refused(self, play, error, *values):
        """That the move, or the reply if there is none, is refused, and changes nothing."""
        before = play.position, play.left, play.is_over
        assert_raises(self, error, *(values and (play.tell, *values) or (play.reply,)))
        self.assertTrue((play.position, play.left, play.is_over) == before)

    def test_hand_0_has_the_turn(self):
        play = Play(CHASE, 2)
        for move in NO_MOVES:
            self.refused(play, BadMove("move"), move)
        for move in (((0, 0), (1, 0)), ((FAR, 7), (1, 7)), ((5, 5), (5, 5)), ((0, 0), (2, 0))):
            self.refused(play, Misfit("turn"), move)
        self.assertEqual(play.reply(), Play(CHASE, 2).reply())

    def test_hand_1_has_the_turn(self):
        play = Play(CHASE, 2)
        first = play.reply()
        for _ in range(2):
            self.refused(play, Misfit("turn"))
            for move in NO_MOVES:
                self.refused(play, BadMove("move"), move)
            for move in (((0, 0), (2, 0)), ((0, 0), (0, 0)), (first[1], (1, 0)), ((5, 5), (6, 5)), ((0, 0), (-1, 0))):
                self.refused(play, Misfit("move"), move)
        play.tell(((0, 0), (1, 0)))
        self.refused(play, Misfit("turn"), ((1, 0), (2, 0)))
        self.assertEqual(play.reply()[1], (1, 0))

    def test_a_move_that_is_not_let(self):
        """The hop may go aside, but then its chief is struck."""
        game = Game([CHIEF, RUNNER, SLED, POST, HOP], goal=("take", "post"))
        pieces = [(0, "sled", FAR, 7), (1, "post", 0, 0), (1, "chief", 50, 50), (1, "hop", 50, 40),
                  (0, "runner", 50, -30)]
        play = Play(Position(game, pieces), 2)
        play.reply()
        self.assertFalse(play.is_over)
        for end in ((51, 40), (49, 41), (51, 39)):
            self.assertIs(may_go(play.position, ((50, 40), end)), True)
            self.refused(play, Misfit("move"), ((50, 40), end))
        play.tell(((50, 40), (50, 41)))
        play.reply()
        self.assertIs(play.is_over, True)

    def test_over(self):
        play = Play(HELD, 1)
        play.reply()
        for move in NO_MOVES:
            self.refused(play, BadMove("move"), move)
        for move in (((0, 0), (0, 1)), ((0, FAR), (0, 5)), ((5, 5), (6, 6))):
            self.refused(play, Over(), move)
        self.refused(play, Over())
        self.refused(play, Over())

    def test_over_before_hand_1_has_a_turn(self):
        play = Play(CHASE, 2)
        play.reply()
        play.tell(((0, 0), (1, 0)))
        play.reply()
        self.assertEqual((play.left, play.is_over, play.position.turn), (0, True, 1))
        self.refused(play, Over())
        self.refused(play, Over(), ((1, 0), (2, 0)))


if __name__ == "__main__":
    unittest.main()
