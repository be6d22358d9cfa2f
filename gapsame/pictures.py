"""Pictures of some columns and rows of a position."""

from gapsame.checks import is_square, is_within
from gapsame.errors import BadNumber, BadSquare
from gapsame.games import is_between
from gapsame.positions import need_position

MOST_SIGNS = 60


def picture(position, square, wide, high):
    """A string for each of so many rows, the highest one first, with a sign for each of so many columns."""
    need_position(position, "position")
    if not is_square(square):
        raise BadSquare("square")
    if not is_within(wide, 1, MOST_SIGNS):
        raise BadNumber("wide")
    if not is_within(high, 1, MOST_SIGNS):
        raise BadNumber("high")
    least, low = square
    columns = list(range(least, least + wide))
    rows = list(range(low, low + high))[::-1]
    return tuple(["".join([sign_of(position, (column, row)) for column in columns]) for row in rows])


def sign_of(position, square):
    """The sign for what stands on the square."""
    if not is_between(position.game.edges, square):
        return "~"
    thing = position.standing.get(square)
    if thing is None:
        return "."
    if thing == "stone":
        return "#"
    hand, name = thing[:2]
    return name[0].upper() if hand == 0 else name[0]
