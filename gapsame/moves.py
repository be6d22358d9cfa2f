"""Moves: where a piece may go, what is let, held and still, and whether the goal is reached."""

from gapsame.checks import is_move, is_square
from gapsame.errors import BadMove, BadSquare, Misfit
from gapsame.games import SIDES
from gapsame.kinds import STEPS
from gapsame.positions import Position, need_position
from gapsame.strikes import can_be_struck, strikes

# The side to which each ride leads.
AHEAD = {"right": "right", "left": "left", "up": "high", "down": "low"}


def may_go(position, move):
    """Whether the move may go."""
    need_move(position, move)
    return can_go(position, tuple(move[0]), tuple(move[1]))


def is_let(position, move):
    """Whether the move is let."""
    need_move(position, move)
    start, end = tuple(move[0]), tuple(move[1])
    return can_go(position, start, end) and is_safe(position, start, end)


def goes(position, square):
    """Where the piece on the square may go: the squares of its leaps, and the last one of each ride."""
    need_position(position, "position")
    if not is_square(square):
        raise BadSquare("square")
    start = tuple(square)
    if not is_movable(position, start):
        raise Misfit("square")
    kind = kind_on(position, start)
    rides = []
    for ride in kind.rides:
        most = reach(position, start, ride)
        if most != 0:
            rides.append((ride, None if most is None else ahead(start, ride, most)))
    return tuple(leaps_from(position, start)), tuple(rides)


def done(position, move):
    """The Position behind the move."""
    if not may_go(position, move):
        raise Misfit("move")
    start, end = tuple(move[0]), tuple(move[1])
    pieces = [piece for piece in position.pieces if piece[2:] not in (start, end)]
    hand, name = position.standing[start][:2]
    pieces.append((hand, name, *end))
    return Position(position.game, pieces, position.stones, 1 - hand)


def is_held(position):
    """Whether the hand whose turn it is is held."""
    need_position(position, "position")
    return is_lord_struck(position) and not has_let(position)


def is_still(position):
    """Whether the hand whose turn it is is still."""
    need_position(position, "position")
    return not is_lord_struck(position) and not has_let(position)


def reached(position):
    """Whether the goal is reached."""
    need_position(position, "position")
    if position.game.goal[0] == "hold":
        return position.turn == 1 and is_held(position)
    return is_goal_of(position.game, position.pieces)


def reaches(position, start, end):
    """Whether the move of hand 0 from start to end, which may go, reaches the goal."""
    game, standing = position.game, standing_behind(position, start, end)
    if game.goal[0] == "hold":
        # Few moves leave the other lord struck, and this is told sooner than whether it is held.
        return is_struck_there(game, standing, position.lords[1], 0) and is_held(done(position, (start, end)))
    return is_goal_of(game, [thing for thing in standing.values() if thing != "stone"])


def is_goal_of(game, pieces):
    """Whether these pieces reach the goal, one to take or to reach."""
    if game.goal[0] == "take":
        return not any([hand == 1 and name == game.goal[1] for hand, name, _, _ in pieces])
    _, side, wanted = game.goal
    edge = game.edges[SIDES.index(side)]
    stands = [column if side in ("left", "right") else row
              for hand, name, column, row in pieces if hand == 0 and name == wanted]
    return edge in stands


def need_move(position, move):
    """Refuses any other values than a Position and a move."""
    need_position(position, "position")
    if not is_move(move):
        raise BadMove("move")


def is_movable(position, square):
    """Whether a piece of the hand whose turn it is stands on the square."""
    thing = position.standing.get(square)
    return thing is not None and thing != "stone" and thing[0] == position.turn


def kind_on(position, square):
    """The Kind of the piece on the square."""
    return position.game.table[position.standing[square][1]]


def is_open(position, square):
    """Whether a piece that strikes the square may go there, whatever it is."""
    thing = position.standing.get(square)
    if thing is None:
        return True
    return thing != "stone" and thing[0] != position.turn and square != position.lords[thing[0]]


def can_go(position, start, end):
    """Whether the move from start to end may go."""
    if not is_movable(position, start) or not is_open(position, end) or not can_be_struck(position, end):
        return False
    return strikes(position.game, position.standing, position.standing[start], end)


def leaps_of(position, start):
    """The squares to which the leaps of the piece on start lead, ascending."""
    column, row = start
    return [(column + across, row + up) for across, up in kind_on(position, start).leaps]


def can_leap_to(position, end):
    """Whether a leap of the hand whose turn it is that leads to the square may go."""
    return can_be_struck(position, end) and is_open(position, end)


def leaps_from(position, start):
    """The squares to which the leaps of the piece on start may go, ascending."""
    return [end for end in leaps_of(position, start) if can_leap_to(position, end)]


def ahead(square, ride, many):
    """The square that lies so many squares ahead, along the ride."""
    across, up = STEPS[ride]
    return square[0] + across * many, square[1] + up * many


def distance(start, ride, square):
    """How far ahead the square lies, along the ride, whether or not beside it; below 0 behind."""
    across, up = STEPS[ride]
    return (square[0] - start[0]) * across + (square[1] - start[1]) * up


def reach(position, start, ride):
    """How many squares ahead the piece on start may go by the ride, at most; None for no end."""
    across, up = STEPS[ride]
    beside = [square for square in position.standing
              if up == 0 and square[1] == start[1] or across == 0 and square[0] == start[0]]
    far = [distance(start, ride, square) for square in beside]
    nearest = min([many for many in far if many > 0], default=None)
    if nearest is not None:
        return nearest if is_open(position, ahead(start, ride, nearest)) else nearest - 1
    edge = position.game.edges[SIDES.index(AHEAD[ride])]
    if edge is None:
        return None
    return distance(start, ride, (edge, edge))


def is_lord_struck(position):
    """Whether the lord of the hand whose turn it is is struck."""
    lord = position.lords[position.turn]
    return is_struck_there(position.game, position.standing, lord, 1 - position.turn)


def standing_behind(position, start, end):
    """What stands on each square behind the move from start to end, which may go."""
    standing = {square: thing for square, thing in position.standing.items() if square != start}
    standing[end] = (*position.standing[start][:2], *end)
    return standing


def is_safe(position, start, end):
    """Whether behind the move from start to end, which may go, the own lord is struck by nothing, or is none."""
    lord = position.lords[position.turn]
    if lord == start:
        lord = end
    standing = standing_behind(position, start, end)
    return not is_struck_there(position.game, standing, lord, 1 - position.turn)


def is_struck_there(game, standing, lord, hand):
    """Whether a piece of the hand strikes the other one's lord, None for no lord, where this is what stands."""
    if lord is None:
        return False
    pieces = [thing for thing in standing.values() if thing != "stone" and thing[0] == hand]
    return any([strikes(game, standing, piece, lord) for piece in pieces])


def has_let(position):
    """Whether a move of the hand whose turn it is is let."""
    for hand, _, column, row in position.pieces:
        if hand == position.turn and can_move_safely(position, (column, row)):
            return True
    return False


def can_move_safely(position, start):
    """Whether a move of the piece on start is let."""
    for end in leaps_of(position, start):
        if can_leap_to(position, end) and is_safe(position, start, end):
            return True
    for ride in kind_on(position, start).rides:
        for end in enough_of(position, start, ride):
            if is_safe(position, start, end):
                return True
    return False


def enough_of(position, start, ride):
    """Some squares to which the ride may go, one of which is let if any is."""
    most = reach(position, start, ride)
    # All squares are alike but the last one, if a piece is taken there, and the one beside the own lord. So one
    # of the first three is alike to all the others.
    chosen = [1, 2, 3]
    if most is not None:
        chosen.append(most)
    lord = position.lords[position.turn]
    if lord is not None:
        chosen.append(distance(start, ride, lord))
    return [ahead(start, ride, many) for many in chosen if many > 0 and (most is None or many <= most)]
