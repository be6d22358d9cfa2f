"""Positions grown at a gap, and families of them, told by few papers."""

from gapsame.books import is_unwon_paper, is_won_paper
from gapsame.check_wins import shows_win
from gapsame.checks import is_list, is_within
from gapsame.errors import BadNumber, BadPaper, BadWords
from gapsame.games import bound
from gapsame.lines import columns_of, laid, rows_of
from gapsame.papers import Paper
from gapsame.positions import need_position
from gapsame.wins import judged, need_contest

AXES = ("columns", "rows")


class Family(Paper):
    """Who wins in each position of a family: a paper for each length of the gap, that for 1 first."""

    def __init__(self, papers):
        Paper.__init__(self, "family", papers)
        self.papers = self.parts[0]


def grown(position, axis, index, gap):
    """The Position grown to this length of the gap."""
    need_gap(position, axis, index)
    need_length(gap)
    return grown_to(position, axis, index, gap)


def family(position, axis, index, n):
    """The Family of the position at the gap, within n."""
    need_gap(position, axis, index)
    need_contest(position, n)
    lengths = lengths_of(position, n)
    return Family([judged(grown_to(position, axis, index, gap), n) for gap in lengths])


def shows_family(position, axis, index, n, value):
    """Whether the value is a right Family of the position at the gap, within n."""
    need_gap(position, axis, index)
    need_contest(position, n)
    lengths = lengths_of(position, n)
    if not is_family_paper(value) or not is_list(value.papers) or len(value.papers) != len(lengths):
        return False
    pairs = list(zip(lengths, value.papers))
    return all([shows_win(grown_to(position, axis, index, gap), n, paper) for gap, paper in pairs])


def tells(paper, gap):
    """Whether hand 0 wins for this length of the gap, as a Family tells."""
    need_family(paper)
    need_length(gap)
    return bool(paper.papers[min(gap, len(paper.papers)) - 1])


def settled(paper):
    """The least length that is settled, as a Family tells."""
    need_family(paper)
    wins = [bool(one) for one in paper.papers]
    unlike = [at for at, is_win in enumerate(wins) if is_win != wins[-1]]
    # The paper at 0 is that for the length 1, so that the length behind the last unlike one is 2 more.
    return unlike[-1] + 2 if unlike else 1


def need_gap(position, axis, index):
    """Refuses what is no position, no axis, or no index of a gap of it."""
    need_position(position, "position")
    if not isinstance(axis, str) or axis not in AXES:
        raise BadWords("axis")
    if not is_within(index, 0, len(lines_along(position, axis)) - 2):
        raise BadNumber("index")


def need_length(gap):
    """Refuses any other value than a length of a gap."""
    if not is_within(gap, 1, None):
        raise BadNumber("gap")


def need_family(value):
    """Refuses any other value than a Family of at least one paper, each of them a Won or an Unwon."""
    if not is_family_paper(value) or not is_list(value.papers) or len(value.papers) == 0:
        raise BadPaper("paper")
    if not all([is_won_paper(one) or is_unwon_paper(one) for one in value.papers]):
        raise BadPaper("paper")


def is_family_paper(value):
    """Whether it is a Family, made by calling this very class."""
    return isinstance(value, Family) and value.__class__.__name__ == "Family"


def lengths_of(position, n):
    """The lengths of which a family within n has papers."""
    return list(range(1, bound(position.game, 2 * n) + 1))


def lines_along(position, axis):
    """The lines of columns, or those of rows."""
    return columns_of(position) if axis == "columns" else rows_of(position)


def grown_to(position, axis, index, gap):
    """The Position grown, all of which fits."""
    lines = lines_along(position, axis)
    more = gap - (lines[index + 1] - lines[index])
    later = [line if at <= index else line + more for at, line in enumerate(lines)]
    if axis == "columns":
        return laid(position, later, rows_of(position))
    return laid(position, columns_of(position), later)
