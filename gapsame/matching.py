"""Moves that are matched with those of a position that is alike."""

from gapsame.checks import is_move, is_within
from gapsame.errors import BadMove, BadNumber, Misfit
from gapsame.games import MOST_DOUBLINGS, bound
from gapsame.likeness import part_unlike
from gapsame.lines import columns_of, rows_of
from gapsame.moves import done, may_go
from gapsame.positions import need_position


def matched(one, other, m, move):
    """A move of other that is matched with the move of one, for m."""
    need_match(one, other, m, move)
    column, row = move[1]
    near = bound(one.game, m - 1)
    end = (placed(columns_of(one), columns_of(other), near, column), placed(rows_of(one), rows_of(other), near, row))
    return like_square(one, other, move[0]), end


def is_matched(one, other, m, move, value):
    """Whether the value is a move of other that is matched with the move of one, for m."""
    need_match(one, other, m, move)
    if not is_move(value) or tuple(value[0]) != like_square(one, other, move[0]) or not may_go(other, value):
        return False
    return part_unlike(done(one, move), done(other, value), m - 1) is None


def need_match(one, other, m, move):
    """Refuses what is no move that may go in one, or no position other that is alike for m."""
    need_position(one, "one")
    need_position(other, "other")
    if not is_within(m, 1, MOST_DOUBLINGS):
        raise BadNumber("m")
    if not is_move(move):
        raise BadMove("move")
    if part_unlike(one, other, m) is not None:
        raise Misfit("other")
    if not may_go(one, move):
        raise Misfit("move")


def like_square(one, other, square):
    """The square of other at the indexes of a square of one on which something stands."""
    column, row = square
    return columns_of(other)[columns_of(one).index(column)], rows_of(other)[rows_of(one).index(row)]


def placed(ours, theirs, near, place):
    """Where a place among our lines lies among theirs: as near to the same lines, or not near to any."""
    behind = len([line for line in ours if line <= place])
    if behind > 0 and place - ours[behind - 1] < near:
        return theirs[behind - 1] + (place - ours[behind - 1])
    if behind < len(ours) and ours[behind] - place < near:
        return theirs[behind] - (ours[behind] - place)
    # Just so far from the line ahead, there is as much room and more up to the one behind.
    return theirs[behind - 1] + near if behind > 0 else theirs[0] - near
