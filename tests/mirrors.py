"""Positions mirrored, turned, or with columns and rows exchanged, made by hand."""

from gapsame.games import Game
from gapsame.kinds import Kind
from gapsame.positions import Position

# Of each way about: where a square, or a leap, goes; and where each side, each ride goes.
WAYS = {
    "mirrored": (lambda column, row: (-column, row), {"left": "right", "right": "left", "low": "low", "high": "high"},
                 {"right": "left", "left": "right", "up": "up", "down": "down"}),
    "upside down": (lambda column, row: (column, -row), {"left": "left", "right": "right", "low": "high", "high": "low"},
                    {"right": "right", "left": "left", "up": "down", "down": "up"}),
    "exchanged": (lambda column, row: (row, column), {"left": "low", "right": "high", "low": "left", "high": "right"},
                  {"right": "up", "left": "down", "up": "right", "down": "left"}),
    "turned": (lambda column, row: (-row, column), {"left": "low", "low": "right", "right": "high", "high": "left"},
               {"right": "up", "up": "left", "left": "down", "down": "right"}),
}
SIDES = ("left", "right", "low", "high")


def along(position, way):
    """The position that goes along."""
    to, sides, rides = WAYS[way]
    kinds = [Kind(kind.name, [to(*leap) for leap in kind.leaps], [rides[ride] for ride in kind.rides], kind.is_lord)
             for kind in position.game.kinds]
    edges = dict.fromkeys(SIDES)
    for side, edge in zip(SIDES, position.game.edges):
        if edge is not None:
            place = to(edge, 0) if side in ("left", "right") else to(0, edge)
            edges[sides[side]] = place[0] if sides[side] in ("left", "right") else place[1]
    goal = position.game.goal
    if goal[0] == "reach":
        goal = ("reach", sides[goal[1]], goal[2])
    pieces = [(hand, name, *to(column, row)) for hand, name, column, row in position.pieces]
    game = Game(kinds, [edges[side] for side in SIDES], goal)
    return Position(game, pieces, [to(*stone) for stone in position.stones], position.turn)


def move_along(move, way):
    """The move that goes along."""
    to = WAYS[way][0]
    return to(*move[0]), to(*move[1])


def shifted(position, across, up):
    """The position with all of it so much farther to the right, and up."""
    left, right, low, high = position.game.edges
    edges = [None if edge is None else edge + by for edge, by in ((left, across), (right, across), (low, up), (high, up))]
    pieces = [(hand, name, column + across, row + up) for hand, name, column, row in position.pieces]
    stones = [(column + across, row + up) for column, row in position.stones]
    return Position(Game(position.game.kinds, edges, position.game.goal), pieces, stones, position.turn)
