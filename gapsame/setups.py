"""What a desk has set up and kept, and the play that is begun."""

from gapsame.errors import NoName, Nothing
from gapsame.games import SIDES, Game
from gapsame.moves import is_held, is_still, reached
from gapsame.positions import Position


class Setup:
    """What a desk has. Only one that was just copied is changed, by the deed for which it was."""

    def __init__(self):
        self.kinds = {}
        self.edges = [None] * len(SIDES)
        self.goal = ("hold",)
        # What stands on each square: a piece, as it is told in a position, or "stone".
        self.things = {}
        self.turn = 0
        self.kept = {}
        self.stage = None


def copied(setup):
    """A copy, which may be changed."""
    other = Setup()
    other.kinds = dict(setup.kinds)
    other.edges = list(setup.edges)
    other.goal = setup.goal
    other.things = {square: setup.things[square] for square in setup.things}
    other.turn = setup.turn
    other.kept = dict(setup.kept)
    other.stage = setup.stage
    return other


def position_of(setup):
    """The Position that is set up."""
    game = Game(list(setup.kinds.values()), setup.edges, setup.goal)
    pieces = [thing for thing in setup.things.values() if thing != "stone"]
    stones = [square for square in setup.things if setup.things[square] == "stone"]
    return Position(game, pieces, stones, setup.turn)


def set_up(setup, position):
    """Sets up this position, which the setup has from now on."""
    setup.kinds = {kind.name: kind for kind in position.game.kinds}
    setup.edges = list(position.game.edges)
    setup.goal = position.game.goal
    setup.things = {square: position.standing[square] for square in position.standing}
    setup.turn = position.turn


def kept_by(setup, name):
    """The Position that is kept by this name."""
    if name not in setup.kept:
        raise NoName(name)
    return setup.kept[name]


def stage_of(setup):
    """The Stage at which the play is."""
    if setup.stage is None:
        raise Nothing()
    return setup.stage


def state_of(position):
    """The word for how it is in the position."""
    if reached(position):
        return "reached"
    if is_held(position):
        return "held"
    return "still" if is_still(position) else "open"


def move_text(move):
    """A move, as orders write it."""
    (column, row), (to_column, to_row) = move
    return f"{column} {row} {to_column} {to_row}"
