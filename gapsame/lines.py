"""Lines of columns and of rows, the gaps between them, and positions laid on other lines."""

from gapsame.checks import is_integer, is_list
from gapsame.errors import BadNumber
from gapsame.games import Game
from gapsame.positions import Position, need_position


def columns_of(position):
    """The lines of columns, ascending."""
    need_position(position, "position")
    left, right, _, _ = position.game.edges
    return lines_among([column for column, _ in position.standing], left, right)


def rows_of(position):
    """The lines of rows, ascending."""
    need_position(position, "position")
    _, _, low, high = position.game.edges
    return lines_among([row for _, row in position.standing], low, high)


def gaps_of(position):
    """The gaps of columns, and those of rows, in the order of their lines."""
    need_position(position, "position")
    return gaps_between(columns_of(position)), gaps_between(rows_of(position))


def stands_of(position):
    """The pieces and the stones, with the indexes of their lines in the place of their columns and rows."""
    need_position(position, "position")
    columns, rows = indexes_of(columns_of(position)), indexes_of(rows_of(position))
    # The indexes ascend as the lines do, so that these tuples do, too.
    pieces = [(hand, name, columns[column], rows[row]) for hand, name, column, row in position.pieces]
    stones = [(columns[column], rows[row]) for column, row in position.stones]
    return tuple(pieces), tuple(stones)


def laid(position, columns, rows):
    """The Position in which the same stands at the same indexes of other lines."""
    need_position(position, "position")
    if not are_lines(columns, len(columns_of(position))):
        raise BadNumber("columns")
    if not are_lines(rows, len(rows_of(position))):
        raise BadNumber("rows")
    pieces, stones = stands_of(position)
    game = Game(position.game.kinds, edges_beside(position.game.edges, columns, rows), position.game.goal)
    return Position(game, [(hand, name, columns[i], rows[j]) for hand, name, i, j in pieces],
                    [(columns[i], rows[j]) for i, j in stones], position.turn)


def lines_among(places, least, most):
    """The lines, ascending, of these places and of the edges that there are."""
    lines = list(places)
    if least is not None:
        lines.append(least - 1)
    if most is not None:
        lines.append(most + 1)
    return tuple(sorted(set(lines)))


def gaps_between(lines):
    """How much greater each line is than the one ahead of it."""
    return tuple([line - last for last, line in zip(lines, lines[1:])])


def indexes_of(lines):
    """The index of each line."""
    return {line: index for index, line in enumerate(lines)}


def are_lines(value, many):
    """Whether it is a list of so many integers, each above the one ahead of it."""
    if not is_list(value) or len(value) != many or not all([is_integer(line) for line in value]):
        return False
    return all([last < line for last, line in zip(value, value[1:])])


def edges_beside(edges, columns, rows):
    """The edges that go along with their lines, the outermost ones, at the sides that have one."""
    places = (columns[0] + 1, columns[-1] - 1, rows[0] + 1, rows[-1] - 1)
    return tuple([None if edge is None else place for edge, place in zip(edges, places)])
