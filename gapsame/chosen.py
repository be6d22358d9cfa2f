"""Chosen moves, which stand for all, however far they go."""

from gapsame.checks import is_list, is_move, is_within
from gapsame.errors import BadMove, BadNumber, Misfit
from gapsame.games import bound
from gapsame.likeness import mark_of
from gapsame.lines import lines_among
from gapsame.moves import ahead, distance, done, kind_on, leaps_from, may_go, reach
from gapsame.papers import fixed
from gapsame.positions import need_position

MOST_CHOSEN = 4


def chosen_moves(position, m):
    """Some moves that do for m, ascending."""
    need_number_of(position, m)
    return tuple(sorted(list(chosen_by_mark(position, bound(position.game, m - 1)).values())))


def chosen_for(position, m, move):
    """The one of the chosen moves with which the move is matched, for m."""
    need_number_of(position, m)
    if not is_move(move):
        raise BadMove("move")
    if not may_go(position, move):
        raise Misfit("move")
    near = bound(position.game, m - 1)
    return chosen_by_mark(position, near)[mark_behind(position, near, fixed(move))]


def are_chosen(position, m, value):
    """Whether the value is a list of unlike moves that may go, and do for m."""
    need_number_of(position, m)
    if not is_list(value) or not all([is_move(move) and may_go(position, move) for move in value]):
        return False
    moves = fixed(value)
    if len(set(moves)) != len(moves):
        return False
    near = bound(position.game, m - 1)
    marks = {mark_behind(position, near, move) for move in moves}
    return all([mark in marks for mark in chosen_by_mark(position, near)])


def need_number_of(position, m):
    """Refuses any other values than a Position and a number for which moves are chosen."""
    need_position(position, "position")
    if not is_within(m, 1, MOST_CHOSEN):
        raise BadNumber("m")


def mark_behind(position, near, move):
    """What tells the moves apart: equal exactly if they are matched, near being the bound behind them."""
    return move[0], mark_of(done(position, move), near)


def chosen_by_mark(position, near):
    """The chosen moves by their marks: the first of all that are matched with one another."""
    chosen = {}
    for move in some_moves(position, near):
        chosen.setdefault(mark_behind(position, near, move), move)
    return chosen


def some_moves(position, near):
    """Unlike moves that do, near being the bound behind them; some may be matched with one another."""
    starts = [piece[2:] for piece in position.pieces if piece[0] == position.turn]
    return [(start, end) for start in starts for end in ends_of(position, start, near)]


def ends_of(position, start, near):
    """Squares to which the piece on start may go, each told once, such that these moves do."""
    leaps = leaps_from(position, start)
    ends = list(leaps)
    for ride in kind_on(position, start).rides:
        far = far_enough(marks_ahead(position, start, ride), near, reach(position, start, ride))
        squares = [ahead(start, ride, many) for many in far]
        # A leap may lead along a row or a column, too.
        ends.extend([square for square in squares if square not in leaps])
    return ends


def marks_ahead(position, start, ride):
    """How far ahead, along the ride, the lines lie that there are without the piece on start."""
    left, right, low, high = position.game.edges
    others = [square for square in position.standing if square != start]
    # A line of columns only counts for rides in a row, and one of rows for those in a column.
    if ride in ("right", "left"):
        lines = lines_among([column for column, _ in others], left, right)
        return [distance(start, ride, (line, start[1])) for line in lines]
    lines = lines_among([row for _, row in others], low, high)
    return [distance(start, ride, (start[0], line)) for line in lines]


def far_enough(marks, near, most):
    """How far to go, from 1 on and most at most: near to the marks each way, and once far from all in each gap."""
    wanted = {many for mark in marks for many in range(mark - near + 1, mark + near + 1)}
    # In each gap the least of those that are far from all marks is 1, or just near behind a mark.
    wanted.add(1)
    return [many for many in sorted(wanted) if many > 0 and (most is None or many <= most)]
