"""Games: the kinds of pieces, the edges of the field, the goal of hand 0, and their texts."""

from gapsame.checks import is_integer, is_list, is_name, is_square, is_within
from gapsame.errors import BadGame, BadNumber, BadSquare, NoName
from gapsame.kinds import Kind, read_kind
from gapsame.texts import Text

MOST_KINDS = 8
MOST_DOUBLINGS = 12
# In the order in which edges are told.
SIDES = ("left", "right", "low", "high")


class Game:
    """A game. It does not change."""

    def __init__(self, kinds, edges=(None, None, None, None), goal=("hold",)):
        if not are_kinds(kinds):
            raise BadGame("kinds")
        if not are_edges(edges):
            raise BadGame("edges")
        if not is_goal(kinds, edges, goal):
            raise BadGame("goal")
        self.kinds = tuple(sorted(kinds, key=lambda kind: kind.name))
        self.edges = tuple(edges)
        self.goal = tuple(goal)
        # Kept, as they are asked for so often: the kinds by their names, and the longest leap.
        self.table = {kind.name: kind for kind in self.kinds}
        self.farthest = max([1] + [max(abs(across), abs(up)) for kind in kinds for across, up in kind.leaps])

    def __eq__(self, other):
        return (isinstance(other, Game) and self.kinds == other.kinds and self.edges == other.edges
                and self.goal == other.goal)

    def __str__(self):
        rows = [f"kind {kind}" for kind in self.kinds]
        rows.extend([f"edge {side} {edge}" for side, edge in zip(SIDES, self.edges) if edge is not None])
        rows.append("goal " + " ".join(self.goal))
        return "\n".join(rows)

    def kind(self, name):
        """The Kind of this name."""
        if not isinstance(name, str) or name not in self.table:
            raise NoName(name)
        return self.table[name]

    @staticmethod
    def read(text):
        """The Game whose text this is."""
        told = Text(text)
        parts = read_parts(told)
        told.refuse_rest()
        game = game_of(told, parts)
        if str(game) != text:
            told.refuse_whole()
        return game


def on_field(game, square):
    """Whether the square is on the field."""
    need_game(game)
    if not is_square(square):
        raise BadSquare("square")
    return is_between(game.edges, square)


def longest(game):
    """The greatest number, without its sign, in any leap of any of its kinds; 1 if there is no leap."""
    need_game(game)
    return game.farthest


def bound(game, m):
    """Its bound for m."""
    need_game(game)
    if not is_within(m, 0, MOST_DOUBLINGS):
        raise BadNumber("m")
    return (game.farthest + 1) << m


def need_game(value):
    """Refuses any other value than a Game."""
    if not isinstance(value, Game):
        raise BadGame("game")


def are_kinds(value):
    """Whether it is a list of 1 to 8 Kinds of unlike names."""
    if not is_list(value) or not 1 <= len(value) <= MOST_KINDS:
        return False
    if not all([isinstance(kind, Kind) for kind in value]):
        return False
    return len({kind.name for kind in value}) == len(value)


def are_edges(value):
    """Whether it is a list of four edges, of which none are the wrong way about."""
    if not is_list(value) or len(value) != len(SIDES):
        return False
    if not all([edge is None or is_integer(edge) for edge in value]):
        return False
    left, right, low, high = value
    return is_not_above(left, right) and is_not_above(low, high)


def is_not_above(least, most):
    """Whether the one is not above the other, where both are told."""
    return least is None or most is None or least <= most


def is_goal(kinds, edges, value):
    """Whether it is a goal of these kinds and edges."""
    if not is_list(value) or not all([isinstance(word, str) for word in value]):
        return False
    words = tuple(value)
    if len(words) == 2 and words[0] == "take":
        return words[1] in [kind.name for kind in kinds if not kind.is_lord]
    if len(words) == 3 and words[0] == "reach":
        sides = [side for side, edge in zip(SIDES, edges) if edge is not None]
        return words[1] in sides and words[2] in [kind.name for kind in kinds]
    return words == ("hold",)


def is_between(edges, square):
    """Whether the square is beyond none of the edges."""
    # Written out, as nothing else is asked so often.
    left, right, low, high = edges
    column, row = square
    return ((left is None or left <= column) and (right is None or column <= right)
            and (low is None or low <= row) and (high is None or row <= high))


def read_parts(told):
    """The kinds, the edges and the goal that the next lines of a text tell, up to the line of the goal."""
    kinds, edges, words = [], [None] * len(SIDES), ("kind",)
    while True:
        line = told.begin(words)
        if line.words[0] == "kind":
            kinds.append(read_kind(line))
            words = ("kind", "edge", "goal")
        elif line.words[0] == "edge":
            side = read_side(line)
            edges[SIDES.index(side)] = read_last(line)
            words = ("edge", "goal")
        else:
            return kinds, edges, read_goal(line)


def read_goal(line):
    """The goal behind the word goal, to the end of the line."""
    goal = [line.seen()]
    if not line.skip("hold"):
        if line.skip("reach"):
            goal.append(read_side(line))
        elif not line.skip("take"):
            line.refuse()
        goal.append(read_name(line))
    line.refuse_rest()
    return goal


def read_side(line):
    """The next item of the line, the word of a side."""
    if line.seen() not in SIDES:
        line.refuse()
    return line.take()


def read_name(line):
    """The next item of the line, which can be the name of a kind."""
    if not is_name(line.seen()):
        line.refuse()
    return line.take()


def read_integer(line):
    """The integer that the next item of the line writes."""
    number = line.integer()
    if number is None:
        line.refuse()
    line.take()
    return number


def read_last(line):
    """The integer that the last item of the line writes."""
    number = read_integer(line)
    line.refuse_rest()
    return number


def game_of(told, parts):
    """The Game of the parts that a text tells, which is refused if these make none."""
    kinds, edges, goal = parts
    # Each part is of the right form, so that only the whole shows it.
    if not are_kinds(kinds) or not are_edges(edges) or not is_goal(kinds, edges, goal):
        told.refuse_whole()
    return Game(kinds, edges, goal)
