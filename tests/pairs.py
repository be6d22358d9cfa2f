"""Pairs of positions that are alike, and moves that tell all there are."""

from gapsame.lines import laid
from gapsame.moves import goes
from reference import STEPS, bound_of, gaps_along, lines_of, some_position

FAR = 10 ** 40


def telling_moves(position, most):
    """Moves that may go: all leaps; of each ride the squares on lines, near to lines, and one far from them."""
    moves = []
    for hand, _, column, row in position.pieces:
        if hand == position.turn:
            leaps, rides = goes(position, (column, row))
            moves.extend([((column, row), end) for end in leaps])
            for ride, last in rides:
                for end in ends_along(position, (column, row), ride, last, most):
                    moves.append(((column, row), end))
    return moves


def ends_along(position, start, ride, last, most):
    """Squares of a ride: those at most so far from a line, and some that are farther from all."""
    across, up = STEPS[ride]
    axis, sign = (0, across) if across else (1, up)
    ends = {start[axis] + sign * FAR, start[axis] + sign * (most + 1)}
    lines = lines_of(position, axis)
    for line in lines:
        ends |= set(range(line - most, line + most + 1))
    ends |= {(line + behind) // 2 for line, behind in zip(lines, lines[1:])}
    ends = {end for end in ends if (end - start[axis]) * sign > 0
            and (last is None or (last[axis] - end) * sign >= 0)}
    return [(end, start[1]) if across else (start[0], end) for end in sorted(ends)]


def alike_pairs(chance, many, m, leap, things=5):
    """Pairs of positions that are alike for m, but for no greater number or so."""
    for _ in range(many):
        edges = [chance.choice([None, edge]) for edge in (0, 60, 0, 60)]
        places = [sorted(chance.sample(range(61), 4)) for _ in range(2)]
        position = some_position(chance, places, edges, leap, things)
        most = bound_of(position.game, m)
        told = []
        for axis in (0, 1):
            gaps = [chance.choice([1, 2, most - 1, most, most + 1, FAR]) for _ in gaps_along(position, axis)]
            for _ in range(2):
                lines = [chance.randint(-9, 9)]
                for gap in gaps:
                    lines.append(lines[-1] + (gap if gap < most else chance.choice([most, most + 1, 2 * most, FAR])))
                told.append(lines)
        yield laid(position, told[0], told[2]), laid(position, told[1], told[3])
