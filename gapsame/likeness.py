"""Positions that are alike for a number, and positions that are cut for one."""

from gapsame.checks import is_within
from gapsame.errors import BadNumber
from gapsame.games import MOST_DOUBLINGS, bound
from gapsame.lines import gaps_of, laid, stands_of
from gapsame.papers import Denial, Paper
from gapsame.positions import need_position


class Alike(Paper):
    """Two positions are alike."""

    def __init__(self):
        Paper.__init__(self, "alike")


class Unlike(Denial):
    """Two positions are not alike: the part tells what parts them."""

    def __init__(self, part):
        Denial.__init__(self, "unlike", part)
        self.part = self.parts[0]


def alike(one, other, m):
    """Alike() if both positions are alike for m, otherwise the Unlike of what parts them first."""
    need_position(one, "one")
    need_position(other, "other")
    need_number(m)
    part = part_unlike(one, other, m)
    return Alike() if part is None else Unlike(part)


def alike_to(one, other):
    """The greatest number for which both positions are alike, None if there is none."""
    need_position(one, "one")
    need_position(other, "other")
    for m in reversed(range(MOST_DOUBLINGS + 1)):
        if part_unlike(one, other, m) is None:
            return m
    return None


def cut(position, m):
    """The Position cut for m."""
    need_position(position, "position")
    need_number(m)
    columns, rows = gaps_of(position)
    most = bound(position.game, m)
    return laid(position, lines_behind(capped(columns, most)), lines_behind(capped(rows, most)))


def need_number(m):
    """Refuses any other value than a number for which positions may be alike."""
    if not is_within(m, 0, MOST_DOUBLINGS):
        raise BadNumber("m")


def part_unlike(one, other, m):
    """The word for what parts the positions first, None if they are alike for m."""
    if not are_games_alike(one.game, other.game):
        return "game"
    if one.turn != other.turn:
        return "turn"
    if stands_of(one) != stands_of(other):
        return "pieces"
    most = bound(one.game, m)
    ours, theirs = gaps_of(one), gaps_of(other)
    if capped(ours[0], most) != capped(theirs[0], most):
        return "columns"
    if capped(ours[1], most) != capped(theirs[1], most):
        return "rows"
    return None


def are_games_alike(one, other):
    """Whether both games have the same kinds, the same goal, and edges at the same sides."""
    if one.kinds != other.kinds or one.goal != other.goal:
        return False
    return [edge is None for edge in one.edges] == [edge is None for edge in other.edges]


def capped(gaps, most):
    """The gaps, those above most made most. They are equal exactly if the gaps are alike."""
    return tuple([min(gap, most) for gap in gaps])


def lines_behind(gaps):
    """The lines with these gaps, the least one at 0."""
    lines = [0]
    for gap in gaps:
        lines.append(lines[-1] + gap)
    return lines


def mark_of(position, most):
    """What tells positions of one game and turn apart: equal exactly if they are alike for the m of this bound."""
    columns, rows = gaps_of(position)
    return stands_of(position), capped(columns, most), capped(rows, most)
