"""What strikes a square, by leaps and by rides."""

from gapsame.checks import is_square, is_within
from gapsame.errors import BadNumber, BadSquare
from gapsame.games import is_between
from gapsame.positions import need_position


def struck(position, square, hand):
    """Whether the square is struck by the hand."""
    return len(strikers(position, square, hand)) > 0


def strikers(position, square, hand):
    """The squares of the pieces of the hand that strike the square, ascending."""
    need_position(position, "position")
    if not is_square(square):
        raise BadSquare("square")
    if not is_within(hand, 0, 1):
        raise BadNumber("hand")
    end = tuple(square)
    if not can_be_struck(position, end):
        return ()
    pieces = [piece for piece in position.pieces if piece[0] == hand]
    found = [piece[2:] for piece in pieces if strikes(position.game, position.standing, piece, end)]
    return tuple(sorted(found))


def can_be_struck(position, square):
    """Whether the square is on the field, and no stone stands on it."""
    return is_between(position.game.edges, square) and position.standing.get(square) != "stone"


def strikes(game, standing, piece, square):
    """Whether the piece strikes the square, one that can be struck, where this is what stands."""
    _, name, column, row = piece
    across, up = square[0] - column, square[1] - row
    kind, most = game.table[name], game.farthest
    # Most squares are farther away than any leap leads, which is told sooner than whether one of them leads there.
    if -most <= across <= most and -most <= up <= most and (across, up) in kind.leaps:
        return True
    return ride_to(across, up) in kind.rides and is_clear(standing, (column, row), square)


def ride_to(across, up):
    """The ride that leads so far; None if none does."""
    if up == 0 and across != 0:
        return "right" if across > 0 else "left"
    if across == 0 and up != 0:
        return "up" if up > 0 else "down"
    return None


def is_clear(standing, start, end):
    """Whether nothing stands between two squares of one column, or of one row."""
    low, high = sorted([start, end])
    if low[0] == high[0]:
        between = [row for column, row in standing if column == low[0] and low[1] < row < high[1]]
    else:
        between = [column for column, row in standing if row == low[1] and low[0] < column < high[0]]
    return len(between) == 0
