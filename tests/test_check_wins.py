"""Which papers of who wins are right: those that are told, others that are right, and those bent in each place."""

import random
import unittest

from contests import FAR, KINDS, all_let, is_right_book, is_right_refusal, lists, some_contests, spread, tuples, ways_bent
from examples import assert_raises, run_examples
from gapsame import check_wins
from gapsame.books import Unwon, Won, courses
from gapsame.check_wins import shows_win
from gapsame.chosen import chosen_moves
from gapsame.errors import BadNumber, BadPosition, Misfit
from gapsame.games import Game
from gapsame.kinds import Kind
from gapsame.likeness import Alike, Unlike
from gapsame.matching import is_matched, matched
from gapsame.moves import done, reached
from gapsame.papers import Denial, Paper
from gapsame.positions import Position
from gapsame.wins import judged
from pairs import telling_moves
from reference import NO_LISTS, NO_MOVES, NO_POSITIONS, no_numbers

EXAMPLES = """
>>> [shows_win(far, 1, value) for value in (Won([[[7, 5], [7, 0]], []]), Won((((7, 5), (0, 5)), ())), Won((((7, 5), (7, 0)), None)), Unwon(()), None)]
[True, False, False, False, False]
>>> [shows_win(far, 2, Won((((7, 5), (7, 0)), ()))), shows_win(pinned, 2, judged(pinned, 2)), shows_win(pinned, 1, judged(pinned, 2)), shows_win(lone, 1, judged(lone, 1)), shows_win(lone, 1, Unwon([]))]
[True, True, False, True, False]
>>> quiet = Position(corner, [(1, "guard", 0, 0), (0, "tower", 1, 1), (0, "guard", 9, 9)])
>>> [shows_win(quiet, 1, judged(quiet, 1)), shows_win(value=judged(quiet, 2), position=quiet, n=2)]
[True, True]
"""
CHIEF, RUNNER, SLED, POST = [KINDS[name] for name in ("chief", "runner", "sled", "post")]
GUARD, TOWER = Kind("guard", CHIEF.leaps, (), True), SLED
CORNER = Game([GUARD, Kind("tower", [], ["left", "down"])], (0, None, 0, None))
PINNED = Position(CORNER, [(1, "guard", 1, 0), (0, "guard", 1, 2), (0, "tower", FAR, 5)], [(FAR, 3)])
GAME = Game([CHIEF, RUNNER])
HELD = Position(GAME, [(1, "chief", 0, 0), (0, "runner", 10 ** 30, -1), (0, "runner", -10 ** 30, 1),
                       (0, "runner", 7, 5)])
LONE = Position(GAME, [(1, "chief", 0, 0), (0, "runner", 10 ** 30, -1), (0, "runner", 7, 5)])
CHASE = Position(Game([SLED, POST], goal=("take", "post")), [(0, "sled", FAR, 7), (1, "post", 0, 0)])
# Hand 1 has a runner besides, which goes as far as it likes.
WIDE = Position(Game([SLED, POST, RUNNER], goal=("take", "post")), [(0, "sled", FAR, 7), (1, "post", 0, 0), (1, "runner", -9, -FAR)])
# The post can make one move alone, and the goal is out of reach.
BARRED = Position(Game([SLED, POST], goal=("take", "post")), [(0, "sled", 3, 7), (1, "post", 9, 0)])
NAMES = {"far": HELD, "lone": LONE, "pinned": PINNED, "corner": CORNER, "Position": Position, "Won": Won,
         "Unwon": Unwon, "judged": judged}


class Subwon(Won):
    """A class of its own, below Won."""


def is_right(position, n, paper):
    """Whether the paper is right, as the document says it, over all moves."""
    if type(paper) is Won:
        return is_right_book(position, n, paper.book)
    return type(paper) is Unwon and is_right_refusal(position, n, paper.replies)


def made_again(paper, part):
    return Won(part) if paper else Unwon(part)


class Shown(unittest.TestCase):
    def test_examples(self):
        run_examples(self, EXAMPLES, {**NAMES, **vars(check_wins)})

    def setUp(self):
        self.chance = random.Random(301)

    def assert_shown(self, position, n, paper):
        """That the verdict is that of the document; it is returned."""
        wanted = is_right(position, n, paper)
        self.assertIs(shows_win(position, n, paper), wanted, (str(position), n, paper.parts))
        return wanted

    def some(self, many, n):
        gaps = (1, 1, 2, 3, 8, 9, FAR) if n == 1 else (1, 1, 1, 2)
        return some_contests(self.chance, many, 3, gaps, 4 if n == 1 else 3)

    def test_what_is_judged(self):
        for n, many in ((1, 60), (2, 30)):
            for position in self.some(many, n):
                paper = judged(position, n)
                self.assertIs(shows_win(position, n, paper), True)
                self.assertIs(shows_win(position=position, n=n, value=made_again(paper, lists(paper.parts[0]))), True)
                self.assertIs(shows_win(position, n, made_again(not paper, paper.parts[0])), False)
                self.assert_shown(position, 3 - n, paper)

    def test_bent_in_each_place(self):
        counts = [0, 0]
        for n, many in ((1, 14), (2, 9)):
            for position in self.some(many, n):
                paper = judged(position, n)
                moves = self.chance.sample(all_let(position, 1), min(3, len(all_let(position, 1))))
                others = ((), None, 0, True, (), *moves, *[(move, ()) for move in moves],
                          *[(move, None) for move in moves])
                bent = list(ways_bent(paper.parts[0], others))
                for part in self.chance.sample(bent, min(len(bent), 90)):
                    counts[self.assert_shown(position, n, made_again(paper, part))] += 1
                    self.assert_shown(position, n, made_again(not paper, part))
        self.assertGreater(min(counts), 25)

    def test_moves_exchanged(self):
        """A move exchanged for one that is matched, for one that is not, for one that is not let or may not go."""
        counts = [0, 0]
        for n, many in ((1, 25), (2, 8)):
            for position in self.some(many, n):
                paper = judged(position, n)
                moves = telling_moves(position, 18) + [(piece[2:], piece[2:]) for piece in position.pieces]
                part = list(paper.parts[0])
                for _ in range(20):
                    move = self.chance.choice(moves)
                    if paper:
                        other = [move, part[1]]
                    elif part:
                        at = self.chance.randrange(len(part))
                        other = part[:at] + [(move, part[at][1])] + part[at + 1:]
                    else:
                        other = [(move, ())]
                    counts[self.assert_shown(position, n, made_again(paper, other))] += 1
        self.assertGreater(min(counts), 20)

    def test_lists_in_another_order_and_with_more(self):
        for n, many in ((1, 25), (2, 12)):
            for position in self.some(many, n):
                paper = judged(position, n)
                if not paper:
                    pairs = list(paper.replies)
                    self.chance.shuffle(pairs)
                    self.assertIs(shows_win(position, n, Unwon(pairs)), True)
                    self.assertIs(shows_win(position, n, Unwon(pairs + pairs[:1])), not pairs)
                    for at in range(min(len(pairs), 8)):
                        self.assert_shown(position, n, Unwon(pairs[:at] + pairs[at + 1:]))
                elif paper.book[1]:
                    move, answers = paper.book
                    self.assertIs(shows_win(position, n, Won((move, answers[::-1]))), True)
                    self.assertIs(shows_win(position, n, Won((move, answers + answers[:1]))), False)
                    for at in range(len(answers)):
                        self.assert_shown(position, n, Won((move, answers[:at] + answers[at + 1:])))
                        self.assert_shown(position, n, Won((move, answers[at:] + answers[:at])))
                        other = (answers[at][0], answers[at - 1][1])
                        self.assert_shown(position, n, Won((move, answers[:at] + (other,) + answers[at + 1:])))

    def test_more_moves_than_are_told(self):
        """A refusal of all let moves there are, far ones too; only those that are told would do."""
        for position in some_contests(self.chance, 40, 2, (1, 2, FAR), 3):
            paper = judged(position, 1)
            if not paper:
                self.assertIs(shows_win(position, 1, Unwon([(move, ()) for move in all_let(position, 1)])), True)
                told = {move for move, _ in paper.replies}
                self.assertLessEqual(len(told), len(all_let(position, 1)))

    def test_moves_far_apart_from_those_told(self):
        """Each move exchanged for a matched one that lies elsewhere makes a right paper that is not told."""
        found = 0
        for position in some_contests(self.chance, 40, 2, (1, 9, FAR), 4):
            paper = judged(position, 1)
            if not paper:
                other = spread(self.chance, position, 2)
                replies = []
                for move, _ in paper.replies:
                    there = matched(other, position, 2, matched(position, other, 2, move))
                    self.assertTrue(is_matched(position, position, 2, move, there))
                    replies.append((there, ()))
                found += replies != list(paper.replies)
                self.assertIs(shows_win(position, 1, Unwon(replies)),
                              len({move for move, _ in replies}) == len(replies))
        self.assertGreater(found, 3)


class Told(unittest.TestCase):
    def test_right_papers_that_are_not_judged(self):
        for value in (Won((((7, 5), (7, 0)), ())), Won([[[7, 5], [7, 0]], []])):
            self.assertIs(shows_win(HELD, 1, value), True)
            self.assertIs(shows_win(HELD, 2, value), True)
        first, answer = ((FAR, 7), (1, 7)), ((0, 0), (1, 0))
        for last in (((1, 7), (1, 0)),):
            self.assertIs(shows_win(CHASE, 2, Won((first, [(answer, (last, ()))]))), True)
        down = ((FAR, 7), (FAR, 0))
        self.assertIs(shows_win(CHASE, 2, Won((down, [(answer, (((FAR, 0), (1, 0)), ()))]))), True)

    def test_books_bent(self):
        first, answer, last = ((FAR, 7), (1, 7)), ((0, 0), (1, 0)), ((1, 7), (1, 0))
        pair = (answer, (last, ()))
        wrong = {
            "no answers": (first, ()), "twice": (first, (pair, pair)), "None": (first, None),
            "no answer": (first, ((None, (last, ())),)),
            "no let answer": (first, ((((0, 0), (2, 0)), (last, ())),)),
            "one more, not let": (first, (pair, (((0, 0), (0, 1)), (last, ())))),
            "no last one": (first, ((answer, ()),)), "last one elsewhere": (first, ((answer, (((1, 7), (1, 1)), ())),)),
            "last one not let": (first, ((answer, (((1, 7), (2, 0)), ())),)),
            "last one of hand 1": (first, ((answer, (((1, 0), (2, 0)), ())),)),
            "first one elsewhere": (((FAR, 7), (2, 7)), (pair,)), "first one of hand 1": (answer, (pair,)),
            "first one not let": (((FAR, 7), (1, 8)), (pair,)),
            "answers behind the last one": (first, ((answer, (last, (pair,))),)),
            "None behind the last one": (first, ((answer, (last, None)),)),
            "a pair too long": (first, ((answer, (last, ()), ()),)), "no first one": (None, (pair,)),
        }
        self.assertIs(shows_win(CHASE, 2, Won((first, (pair,)))), True)
        self.assertIs(shows_win(CHASE, 1, Won((first, (pair,)))), False)
        for name, book in wrong.items():
            with self.subTest(book=name):
                self.assertIs(shows_win(CHASE, 2, Won(book)), False)
                self.assertIs(shows_win(CHASE, 2, Won(lists(book))), False)

    def test_answers_that_do_for_less(self):
        """An answer that only for 2, not for 3, is matched with another one must not be left out."""
        first = ((FAR, 7), (FAR, 0))
        later = done(WIDE, first)
        answers = [(answer, judged(done(later, answer), 1).book) for answer in chosen_moves(later, 3)]
        self.assertIs(shows_win(WIDE, 2, Won((first, answers))), True)
        for at, (answer, _) in enumerate(answers):
            rest = answers[:at] + answers[at + 1:]
            self.assertIs(shows_win(WIDE, 2, Won((first, rest))), False, answer)
        few = [(answer, judged(done(later, answer), 1).book) for answer in chosen_moves(later, 2)]
        self.assertLess(len(few), len(answers))
        self.assertIs(shows_win(WIDE, 2, Won((first, few))), False)

    def test_moves_that_do_for_less(self):
        """Of a refusal within n the moves do for 2 n."""
        for n, position in ((1, LONE), (2, BARRED), (2, Position(WIDE.game, [(0, "sled", FAR, 7), (1, "post", 9, 8)]))):
            told = dict(judged(position, n).replies)
            for m in range(1, 2 * n):
                few = [move for move in chosen_moves(position, m) if move in told]
                self.assertIs(shows_win(position, n, Unwon([(move, told[move]) for move in few])), False)
            most = chosen_moves(position, 2 * n)
            self.assertIs(shows_win(position, n, Unwon([(move, told[move]) for move in most if move in told])), True)

    def test_no_answer_behind_the_move(self):
        """A book without answers whose move does not reach the goal, as hand 1 has no let move behind it."""
        box = Position(BARRED.game, [(0, "sled", 5, 2), (1, "post", 0, 0)], [(1, 0)])
        for move in all_let(box, 2):
            for answers in ((), ((((0, 0), (1, 0)), (((5, 2), (5, 1)), ())),)):
                self.assertIs(shows_win(box, 2, Won((move, answers))), False)

    def test_refusals_of_what_is_won(self):
        """All let moves, those that reach the goal as well, with the replies that would be right else, make no refusal."""
        for position in (HELD, Position(CHASE.game, [(0, "sled", 3, 0), (1, "post", 0, 0)])):
            moves = all_let(position, 2)
            self.assertIs(shows_win(position, 1, Unwon([(move, ()) for move in moves])), False)
            replies = [(move, self.reply_behind(done(position, move))) for move in moves]
            self.assertIs(shows_win(position, 2, Unwon(replies)), False)
            for rest in (replies[1:], replies[:-1], [pair for pair in replies if not reached(done(position, pair[0]))]):
                self.assertIs(shows_win(position, 2, Unwon(rest)), False)

    def reply_behind(self, position):
        for answer in all_let(position, 2):
            paper = judged(done(position, answer), 1)
            if not paper:
                return answer, paper.replies
        return None

    def test_goal_reached_with_answers(self):
        move = ((7, 5), (7, 0))
        for answers in ((((0, 0), (0, 1)), (move, ())), ((((0, 0), (0, 1)), (move, ())),), None, 0, ((),)):
            for n in (1, 2):
                self.assertIs(shows_win(HELD, n, Won((move, answers))), False)

    def test_refusals_bent(self):
        paper = judged(BARRED, 2)
        self.assertFalse(paper)
        replies = paper.replies
        self.assertTrue(all(reply is not None for _, reply in replies))
        move, (answer, rest) = replies[0]
        self.assertIs(shows_win(BARRED, 2, Unwon(replies)), True)
        near = [pair for pair in rest if pair[0] != ((2, 7), (2, 1))]
        self.assertEqual((move, len(near)), (((3, 7), (2, 7)), len(rest) - 1))
        for reply in ((), None, (answer,), (answer, None), (answer, near), (answer, rest + rest[:1]),
                      (((9, 0), (9, 1)), rest), (move, rest),
                      (answer, rest, ()), rest, answer, [answer, [list(pair) + [()] for pair in rest]]):
            self.assertIs(shows_win(BARRED, 2, Unwon(((move, reply),) + replies[1:])), False)
        # On column 1 the sled is far from all there is, and likewise on row 6.
        for reply in ([answer, [list(pair) for pair in rest]], (answer, rest[1:]), (answer, rest[:1] + rest[2:])):
            self.assertIs(shows_win(BARRED, 2, Unwon(((move, reply),) + replies[1:])), True)
        self.assertIs(shows_win(BARRED, 1, paper), False)
        self.assertIs(shows_win(BARRED, 1, judged(BARRED, 1)), True)
        self.assertIs(shows_win(BARRED, 2, judged(BARRED, 1)), False)

    def test_none_for_a_reply(self):
        """None is right exactly where hand 1 has no let move."""
        box = Position(BARRED.game, [(0, "sled", 5, 2), (1, "post", 0, 0)], [(1, 0)])
        paper = judged(box, 2)
        self.assertTrue(paper.replies and all(reply is None for _, reply in paper.replies))
        self.assertIs(shows_win(box, 2, paper), True)
        for reply in ((), (((0, 0), (1, 0)), ()), 0, False, ((), ())):
            self.assertIs(shows_win(box, 2, Unwon([(move, reply) for move, _ in paper.replies])), False)
        self.assertIs(shows_win(box, 1, Unwon([(move, ()) for move, _ in judged(box, 1).replies])), True)
        self.assertIs(shows_win(box, 1, Unwon([(move, None) for move, _ in judged(box, 1).replies])), False)
        self.assertIs(shows_win(box, 2, Unwon([(move, ()) for move, _ in paper.replies])), False)

    def test_none_at_all(self):
        """Where hand 0 has no let move the refusal of nothing is right, for 1 and for 2."""
        stuck = Position(Game([POST], (None, 5, None, None), ("reach", "right", "post")), [(0, "post", 5, 0)])
        for n in (1, 2):
            for part in ((), []):
                self.assertIs(shows_win(stuck, n, Unwon(part)), True)
            for part in (None, 0, False, ((((5, 0), (6, 0)), ()),), ((((5, 0), (6, 0)), None),), ((),), {}, ""):
                self.assertIs(shows_win(stuck, n, Unwon(part)), False)
            for position in (HELD, LONE, CHASE, BARRED, PINNED):
                self.assertIs(shows_win(position, n, Unwon(())), False)

    def test_values_of_no_such_class(self):
        book, replies = judged(HELD, 1).book, judged(LONE, 1).replies
        for value in (*NO_LISTS, *NO_MOVES, book, replies, Paper("won", book), Denial("unwon", replies),
                      Denial("won", book), Alike(), Unlike("game"),
                      Subwon(book), Won(Won(book)), Unwon(Unwon(replies)), Won, Unwon, Unwon(book), Won(replies),
                      Won(None), Unwon(None), [Won(book)]):
            for n in (1, 2):
                self.assertIs(shows_win(HELD, n, value), False)
                self.assertIs(shows_win(LONE, n, value), False)

    def test_true_and_false_are_no_numbers(self):
        position = Position(Game([SLED, POST], goal=("take", "post")), [(0, "sled", 1, 0), (1, "post", 0, 0)])
        self.assertIs(shows_win(position, 1, Won((((1, 0), (0, 0)), ()))), True)
        for move in (((True, 0), (0, 0)), ((1, False), (0, 0)), ((1, 0), (False, 0)), ((1, 0), (0, False)),
                     ((1.0, 0), (0, 0))):
            self.assertIs(shows_win(position, 1, Won((move, ()))), False)

    def test_courses_of_what_is_right(self):
        for position in (HELD, PINNED, CHASE):
            for n in (1, 2):
                paper = judged(position, n)
                for course in courses(paper):
                    later = position
                    for move in course:
                        later = done(later, move)
                    self.assertEqual(later.turn, len(course) % 2)


class Refused(unittest.TestCase):
    def test_each(self):
        late = Position(GAME, HELD.pieces, (), 1)
        values = (None, Won((((7, 5), (7, 0)), ())), Unwon(()))
        for value in values:
            for position in NO_POSITIONS:
                for n in (1, None):
                    assert_raises(self, BadPosition("position"), shows_win, position, n, value)
            for n in no_numbers(1, 2):
                assert_raises(self, BadNumber("n"), shows_win, HELD, n, value)
                assert_raises(self, BadNumber("n"), shows_win, late, n, value)
            for n in (1, 2):
                assert_raises(self, Misfit("turn"), shows_win, late, n, value)

    def test_what_is_passed_stays(self):
        inner = [[[7, 5], [7, 0]], []]
        paper = Won(inner)
        shows_win(HELD, 1, paper)
        self.assertEqual((inner, paper.book), ([[[7, 5], [7, 0]], []], tuples(inner)))


if __name__ == "__main__":
    unittest.main()
