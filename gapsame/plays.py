"""Plays that hand 0 wins, and books carried to positions that are alike."""

from gapsame.books import Won, is_won_paper
from gapsame.check_wins import shows_win
from gapsame.checks import is_move
from gapsame.errors import BadMove, BadPaper, Misfit, Over
from gapsame.likeness import part_unlike
from gapsame.matching import matched
from gapsame.moves import done, is_let, reached
from gapsame.positions import need_position
from gapsame.wins import judged, need_moves


def carried(one, other, n, paper):
    """A Won that is right for other within n, made of one that is right for one."""
    need_position(one, "one")
    need_position(other, "other")
    need_moves(n)
    if one.turn != 0 or not is_won_paper(paper) or not shows_win(one, n, paper):
        raise BadPaper("paper")
    if part_unlike(one, other, 2 * n) is not None:
        raise Misfit("other")
    return Won(carried_book(one, other, n, paper.book))


class Play:
    """A play, from its begin on. It changes with each move that is made."""

    def __init__(self, position, n):
        self.stage = begun(position, n)
        self.show()

    def reply(self):
        """Makes a move of hand 0, and returns it."""
        move = self.stage.move
        self.stage = replied(self.stage)
        self.show()
        return move

    def tell(self, move):
        """Makes this move of hand 1."""
        self.stage = answered_by(self.stage, move)
        self.show()

    def show(self):
        """Shows in its attributes where it is."""
        self.position = self.stage.position
        self.left = self.stage.left
        self.is_over = self.stage.is_over


class Stage:
    """Where a play is between two moves. It does not change."""

    def __init__(self, position, left, is_over, move):
        self.position = position
        self.left = left
        self.is_over = is_over
        # With what hand 0 replies; None if it has not the turn.
        self.move = move


def begun(position, n):
    """The Stage at which a play begins."""
    paper = judged(position, n)
    if not paper:
        raise Misfit("position")
    return Stage(position, n, False, paper.book[0])


def replied(stage):
    """The Stage behind the reply of hand 0."""
    if stage.is_over:
        raise Over()
    if stage.move is None:
        raise Misfit("turn")
    later = done(stage.position, stage.move)
    return Stage(later, stage.left - 1, reached(later), None)


def answered_by(stage, move):
    """The Stage behind this move of hand 1."""
    if not is_move(move):
        raise BadMove("move")
    if stage.is_over:
        raise Over()
    if stage.move is not None:
        raise Misfit("turn")
    if not is_let(stage.position, move):
        raise Misfit("move")
    later = done(stage.position, move)
    return Stage(later, stage.left, False, judged(later, stage.left).book[0])


def carried_book(one, other, n, book):
    """The book of other, within n, whose moves are matched with those of this one."""
    move, answers = book
    there = matched(one, other, 2 * n, move)
    if not answers:
        return there, ()
    later, other_later = done(one, move), done(other, there)
    books = {}
    for answer, last in answers:
        # Answers that are matched with one another may have one and the same there: it is told once.
        answer_there = matched(later, other_later, 3, answer)
        behind = done(later, answer), done(other_later, answer_there)
        books[answer_there] = carried_book(*behind, 1, last)
    return there, [(answer, books[answer]) for answer in books]
