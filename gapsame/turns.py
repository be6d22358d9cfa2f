"""Positions turned by a quarter, mirrored and moved, and moves that go along."""

from gapsame.checks import is_integer, is_move
from gapsame.errors import BadMove, BadNumber, BadWords
from gapsame.games import Game
from gapsame.kinds import Kind
from gapsame.positions import Position, need_position

WAYS = ("turned", "mirrored", "moved")
# The sides and the rides that each one becomes.
TURNED = {"left": "low", "low": "right", "right": "high", "high": "left"}
TURNED_RIDES = {"right": "up", "up": "left", "left": "down", "down": "right"}
MIRRORED = {"left": "right", "right": "left", "low": "low", "high": "high"}
MIRRORED_RIDES = {"right": "left", "left": "right", "up": "up", "down": "down"}


def turned(position):
    """The Position turned by a quarter."""
    need_position(position, "position")
    left, right, low, high = position.game.edges
    edges = (negative(high), negative(low), left, right)
    kinds = kinds_along(position.game.kinds, "turned", dict(TURNED_RIDES))
    game = Game(kinds, edges, goal_along(position.game.goal, dict(TURNED)))
    return position_along(position, game, "turned", 0, 0)


def mirrored(position):
    """The Position mirrored."""
    need_position(position, "position")
    left, right, low, high = position.game.edges
    edges = (negative(right), negative(left), low, high)
    kinds = kinds_along(position.game.kinds, "mirrored", dict(MIRRORED_RIDES))
    game = Game(kinds, edges, goal_along(position.game.goal, dict(MIRRORED)))
    return position_along(position, game, "mirrored", 0, 0)


def moved(position, across, up):
    """The Position moved."""
    need_position(position, "position")
    need_way(across, up)
    ways = (across, across, up, up)
    edges = [None if edge is None else edge + way for edge, way in zip(position.game.edges, ways)]
    game = Game(position.game.kinds, edges, position.game.goal)
    return position_along(position, game, "moved", across, up)


def gone_along(move, how, across=0, up=0):
    """The move that goes along with a position."""
    if not is_move(move):
        raise BadMove("move")
    if not isinstance(how, str) or how not in WAYS:
        raise BadWords("how")
    need_way(across, up)
    start, end = move
    return pair_along(start, how, across, up), pair_along(end, how, across, up)


def need_way(across, up):
    """Refuses any other values than integers."""
    if not is_integer(across):
        raise BadNumber("across")
    if not is_integer(up):
        raise BadNumber("up")


def pair_along(pair, how, across, up):
    """Where a square, or a leap, goes; across and up count where it is moved."""
    column, row = pair
    if how == "turned":
        return -row, column
    if how == "mirrored":
        return -column, row
    return column + across, row + up


def negative(edge):
    """The edge as far beyond 0, on the other side; None for no edge."""
    return None if edge is None else -edge


def kinds_along(kinds, how, rides):
    """The kinds that go along, turned or mirrored, rides being what each ride becomes."""
    return [Kind(kind.name, [pair_along(leap, how, 0, 0) for leap in kind.leaps],
                 [rides[ride] for ride in kind.rides], kind.is_lord) for kind in kinds]


def goal_along(goal, sides):
    """The goal that goes along, sides being what each side becomes."""
    if goal[0] != "reach":
        return goal
    _, side, name = goal
    return "reach", sides[side], name


def position_along(position, game, how, across, up):
    """The Position of the game that went along, whose pieces and stones go along."""
    pieces = [(hand, name, *pair_along((column, row), how, across, up))
              for hand, name, column, row in position.pieces]
    stones = [pair_along(stone, how, across, up) for stone in position.stones]
    return Position(game, pieces, stones, position.turn)
