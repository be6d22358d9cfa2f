"""Whether hand 0 wins within 1 or 2, with a book or a refusal that shows it."""

from gapsame.books import Unwon, Won
from gapsame.checks import is_within
from gapsame.chosen import some_moves
from gapsame.errors import BadNumber, Misfit
from gapsame.games import bound
from gapsame.moves import done, is_safe, reaches
from gapsame.positions import need_position


def is_won(position, n):
    """Whether the position is won within n."""
    return bool(judged(position, n))


def judged(position, n):
    """The Won of a book of the position within n, or the Unwon of a refusal."""
    need_contest(position, n)
    last = last_move(position)
    if last is not None:
        return Won((last, ()))
    if n == 1:
        return Unwon(last_refusal(position))
    replies = []
    for move in let_moves(position, 4):
        answers, reply = answered(done(position, move))
        if answers:
            return Won((move, answers))
        replies.append((move, reply))
    return Unwon(replies)


def need_contest(position, n):
    """Refuses what is no position in which hand 0 is to win, or no number of moves in which it may."""
    need_position(position, "position")
    need_moves(n)
    if position.turn != 0:
        raise Misfit("turn")


def need_moves(n):
    """Refuses any other value than a number of moves within which it is told who wins."""
    if not is_within(n, 1, 2):
        raise BadNumber("n")


def let_moves(position, m):
    """Let moves with one of which each let move of the hand whose turn it is is matched, for m."""
    return [move for move in some_moves(position, bound(position.game, m - 1)) if is_safe(position, *move)]


def last_move(position):
    """A let move of hand 0 that reaches the goal, None if there is none."""
    for move in some_moves(position, bound(position.game, 1)):
        if reaches(position, *move) and is_safe(position, *move):
            return move
    return None


def last_refusal(position):
    """The refusal within 1 of a position that is not won within 1."""
    return [(move, ()) for move in let_moves(position, 2)]


def answered(position):
    """What is told behind a move of hand 0 that does not reach the goal: the answers of a book, or a reply.

    The answers are none where there is a reply of a refusal.
    """
    answers = []
    for answer in let_moves(position, 3):
        later = done(position, answer)
        last = last_move(later)
        if last is None:
            return [], (answer, last_refusal(later))
        answers.append((answer, (last, ())))
    return answers, None
