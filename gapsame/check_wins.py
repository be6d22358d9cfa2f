"""Whether a value is a right paper of who wins within 1 or 2, move by move."""

from gapsame.books import has_book, has_refusal
from gapsame.chosen import mark_behind
from gapsame.games import bound
from gapsame.moves import done, has_let, is_let, reaches
from gapsame.wins import let_moves, need_contest


def shows_win(position, n, value):
    """Whether the value is the Won of a book of the position within n, or the Unwon of a refusal."""
    need_contest(position, n)
    if has_book(value):
        return is_right_book(position, n, value.book)
    return has_refusal(value) and is_right_refusal(position, n, value.replies)


def is_right_book(position, n, book):
    """Whether what has the form of a book is one of the position within n."""
    move, answers = book
    if not is_let(position, move):
        return False
    if reaches(position, *move):
        return len(answers) == 0
    later = done(position, move)
    if n == 1 or len(answers) == 0 or not do_for_let(later, 3, [answer for answer, _ in answers]):
        return False
    return all([is_right_book(done(later, answer), 1, last) for answer, last in answers])


def is_right_refusal(position, n, replies):
    """Whether what has the form of a refusal is one of the position within n."""
    moves = [move for move, _ in replies]
    if not do_for_let(position, 2 * n, moves) or any([reaches(position, *move) for move in moves]):
        return False
    if n == 1:
        return all([reply == () for _, reply in replies])
    return all([is_right_reply(done(position, move), reply) for move, reply in replies])


def is_right_reply(position, reply):
    """Whether the reply is one of a refusal within 2, in the position behind its move."""
    if reply is None:
        return not has_let(position)
    if reply == ():
        return False
    answer, rest = reply
    return is_let(position, answer) and is_right_refusal(done(position, answer), 1, rest)


def do_for_let(position, m, moves):
    """Whether these are unlike let moves, with one of which each let move is matched, for m."""
    listed = set(moves)
    if len(listed) != len(moves) or not all([is_let(position, move) for move in moves]):
        return False
    rest = [move for move in let_moves(position, m) if move not in listed]
    if not rest:
        return True
    near = bound(position.game, m - 1)
    marks = {mark_behind(position, near, move) for move in moves}
    return all([mark_behind(position, near, move) in marks for move in rest])
