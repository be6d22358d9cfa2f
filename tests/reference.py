"""What the document says of games and positions, told once more, square by square and line by line.

None of it is taken from the functions that are tested; the tests compare both.
"""

import re

from gapsame.errors import BadText
from gapsame.games import Game
from gapsame.kinds import Kind
from gapsame.positions import Position

AROUND = [(0, 1), (1, 1), (1, 0), (1, -1), (0, -1), (-1, -1), (-1, 0), (-1, 1)]
RIDES = ("right", "left", "up", "down")
SIDES = ("left", "right", "low", "high")
ALL_LEAPS = [(across, up) for across in range(-3, 4) for up in range(-3, 4) if (across, up) != (0, 0)]
STEPS = {"right": (1, 0), "left": (-1, 0), "up": (0, 1), "down": (0, -1)}
NO_LISTS = (None, True, False, 0, 1, "", "ab", b"", {}, {1: 2}, {1, 2}, 1.5, object(), range(2), iter([(0, 1)]))
NO_SQUARES = (*NO_LISTS, [], [1], [1, 2, 3], (True, 0), (0, False), (1.0, 2), ("1", 2), (None, 0), [[0, 1]], [(0, 1), (0, 1)])
NO_MOVES = (*NO_LISTS, [], [(0, 0)], [(0, 0), (0, 1), (0, 2)], (0, 1), [0, [0, 1]], [(0, 0), (0, True)],
            [(0, 0), (0, 1, 2)], [(0, 0), None], ["ab", "cd"], [(0.0, 0), (0, 1)])
NO_POSITIONS = (None, True, 0, "", "position", [], (), {}, object(), Position, Game, Kind("a", [(0, 1)]),
                Game([Kind("a", [(0, 1)])]))


def no_numbers(least, most):
    """Values that are no integers from least to most."""
    return [None, True, False, "1", 1.0, [], (1,), [1], b"1", {}, object(), least - 1, most + 1, -10 ** 40, 10 ** 40]


def is_on(game, square):
    """Whether the square is on the field."""
    left, right, low, high = game.edges
    column, row = square
    return not (left is not None and column < left or right is not None and column > right
                or low is not None and row < low or high is not None and row > high)


def things_of(position):
    """What stands on each square."""
    things = {(column, row): (hand, name) for hand, name, column, row in position.pieces}
    things.update({tuple(stone): "stone" for stone in position.stones})
    return things


def kind_named(game, name):
    return [kind for kind in game.kinds if kind.name == name][0]


def squares_struck(game, things, square, steps):
    """The squares that the piece on this one strikes, as far as so many steps."""
    kind = kind_named(game, things[square][1])
    found = {(square[0] + across, square[1] + up) for across, up in kind.leaps}
    for ride in kind.rides:
        across, up = STEPS[ride]
        column, row = square
        for _ in range(steps):
            column, row = column + across, row + up
            found.add((column, row))
            if (column, row) in things:
                break
    return {end for end in found if is_on(game, end) and things.get(end) != "stone"}


def struck_by(game, things, hand, steps):
    """For each square that the hand strikes the squares of the pieces that strike it."""
    found = {}
    for square in sorted(things):
        if things[square] != "stone" and things[square][0] == hand:
            for end in squares_struck(game, things, square, steps):
                found.setdefault(end, []).append(square)
    return found


def lord_square(game, things, hand):
    """The square of the hand's lord, None if there is none."""
    for square, thing in things.items():
        if thing != "stone" and thing[0] == hand and kind_named(game, thing[1]).is_lord:
            return square
    return None


def behind(things, move):
    """What stands behind the move."""
    start, end = move
    later = {square: thing for square, thing in things.items() if square != start}
    later[end] = things[start]
    return later


def moves_of(position, steps):
    """All moves that may go, as far as so many steps, ascending."""
    game, things, moves = position.game, things_of(position), []
    for start, thing in things.items():
        if thing != "stone" and thing[0] == position.turn:
            for end in squares_struck(game, things, start, steps):
                there = things.get(end)
                if there is None or there[0] != position.turn and not kind_named(game, there[1]).is_lord:
                    moves.append((start, end))
    return sorted(moves)


def is_let_here(position, move, steps):
    """Whether a move that may go is let."""
    later = behind(things_of(position), move)
    lord = lord_square(position.game, later, position.turn)
    return lord is None or lord not in struck_by(position.game, later, 1 - position.turn, steps)


def held_and_still(position, steps):
    """Whether the hand whose turn it is is held, and whether it is still."""
    things = things_of(position)
    if any(is_let_here(position, move, steps) for move in moves_of(position, steps)):
        return False, False
    lord = lord_square(position.game, things, position.turn)
    held = lord is not None and lord in struck_by(position.game, things, 1 - position.turn, steps)
    return held, not held


def bound_of(game, m):
    """The bound, doubled step by step."""
    many = max([abs(number) for kind in game.kinds for leap in kind.leaps for number in leap] or [1]) + 1
    for _ in range(m):
        many += many
    return many


def lines_of(position, axis):
    """The lines of columns, axis being 0, or of rows, axis being 1."""
    lines = {square[axis] for square in things_of(position)}
    least, most = position.game.edges[2 * axis:2 * axis + 2]
    lines |= set() if least is None else {least - 1}
    lines |= set() if most is None else {most + 1}
    return sorted(lines)


def gaps_along(position, axis):
    lines = lines_of(position, axis)
    return [lines[i + 1] - lines[i] for i in range(len(lines) - 1)]


def stands_at(position):
    """The pieces and stones, each with how many lines lie ahead of its own."""
    lines = [lines_of(position, 0), lines_of(position, 1)]
    return sorted([(str(thing), *[sum(line < square[axis] for line in lines[axis]) for axis in (0, 1)])
                   for square, thing in things_of(position).items()])


def parts(one, other, m):
    """The word for what parts two positions first; None if they are alike for m."""
    sides = [[edge is not None for edge in position.game.edges] for position in (one, other)]
    if sides[0] != sides[1] or one.game.goal != other.game.goal or list(one.game.kinds) != list(other.game.kinds):
        return "game"
    if one.turn != other.turn:
        return "turn"
    if stands_at(one) != stands_at(other):
        return "pieces"
    many = bound_of(one.game, m)
    for axis, word in ((0, "columns"), (1, "rows")):
        for gap, there in zip(gaps_along(one, axis), gaps_along(other, axis)):
            if gap != there and (gap < many or there < many):
                return word
    return None


NAME = "\\A(?!(lord|leaps|rides|stone)\\Z)[a-z]{1,8}\\Z"
NUMBER = "\\A(0|-?[1-9][0-9]{0,69})\\Z"
SIDE = "\\A(left|right|low|high)\\Z"
HAND = "\\A[01]\\Z"
FORMS = {
    "edge": [[SIDE, NUMBER]],
    "goal": [["\\Ahold\\Z"], ["\\Atake\\Z", NAME], ["\\Areach\\Z", SIDE, NAME]],
    "turn": [[HAND]],
    "piece": [[HAND, NAME, NUMBER, NUMBER]],
    "stone": [[NUMBER, NUMBER]],
}
BEHIND = {"kind": ("kind", "edge", "goal"), "edge": ("edge", "goal"), "goal": ("turn",), "turn": ("piece",),
          "piece": ("piece", "stone"), "stone": ("stone",)}


def first_bent(text, is_of_position):
    """The line and the item of the first one whose form cannot stand; None if all forms can."""
    words, rows = ("kind",), text.split("\n")
    for number, row in enumerate(rows):
        word, *items = row.split(" ")
        if word not in words:
            return number, 0
        if word == "kind":
            try:
                Kind.read(" ".join(items))
            except BadText as error:
                return number, error.item + 1
        else:
            fits = []
            for form in FORMS[word]:
                pairs = list(zip(form, items))
                many = [bool(re.search(pattern, item)) for pattern, item in pairs + [("x\\A", "")]].index(False)
                fits.append((many, many == len(form) == len(items)))
            if not any(is_whole for _, is_whole in fits):
                return number, max(fits)[0] + 1
        words = BEHIND[word]
        if word == "goal" and not is_of_position:
            words = ()
    is_ended = word in ("piece", "stone") if is_of_position else word == "goal"
    return None if is_ended else (len(rows), 0)


def is_whole_right(text):
    """Whether a text of right forms is that of a game, or of a position."""
    rows = [row.split(" ") for row in text.split("\n")]
    kinds = [Kind.read(" ".join(row[1:])) for row in rows if row[0] == "kind"]
    names = [kind.name for kind in kinds]
    lords = [kind.name for kind in kinds if kind.is_lord]
    edges = [(row[1], int(row[2])) for row in rows if row[0] == "edge"]
    if names != sorted(set(names)) or len(names) > 8:
        return False
    order = [SIDES.index(side) for side, _ in edges]
    if order != sorted(set(order)):
        return False
    edge = {side: None for side in SIDES}
    edge.update(dict(edges))
    for least, most in (("left", "right"), ("low", "high")):
        if edge[least] is not None and edge[most] is not None and edge[least] > edge[most]:
            return False
    goal = [row[1:] for row in rows if row[0] == "goal"][0]
    if goal[0] != "hold" and goal[-1] not in names or goal[0] == "take" and goal[1] in lords:
        return False
    if goal[0] == "reach" and edge[goal[1]] is None:
        return False
    if "turn" not in [row[0] for row in rows]:
        return True
    pieces = [(int(row[1]), row[2], int(row[3]), int(row[4])) for row in rows if row[0] == "piece"]
    stones = [(int(row[1]), int(row[2])) for row in rows if row[0] == "stone"]
    squares = [piece[2:] for piece in pieces] + stones
    if pieces != sorted(pieces) or stones != sorted(stones) or len(set(squares)) < len(squares):
        return False
    if len(pieces) > 16 or len(stones) > 16 or any(name not in names for _, name, _, _ in pieces):
        return False
    for column, row in squares:
        if edge["left"] is not None and column < edge["left"] or edge["right"] is not None and column > edge["right"]:
            return False
        if edge["low"] is not None and row < edge["low"] or edge["high"] is not None and row > edge["high"]:
            return False
    hands = [hand for hand, name, _, _ in pieces if name in lords]
    return len(hands) == len(set(hands)) and (goal[0] != "hold" or 1 in hands)


def wanted_error(text, is_of_position):
    """The line and the item that a reading of the text refuses; None if it refuses none."""
    found = first_bent(text, is_of_position)
    if found is not None or is_whole_right(text):
        return found
    rows = text.split("\n")
    return len(rows) - 1, len(rows[-1].split(" ")) - 1


def some_kinds(chance, most_leap=3):
    """Some kinds, the first one that of a lord."""
    leaps = [leap for leap in ALL_LEAPS if max(abs(leap[0]), abs(leap[1])) <= most_leap]
    kinds = [Kind("chief", chance.choice([AROUND, chance.sample(leaps, chance.randint(1, len(leaps)))]), (), True)]
    for name in ("axe", "bow", "cart")[:chance.randint(1, 3)]:
        rides = chance.sample(RIDES, chance.randint(0, 4))
        kinds.append(Kind(name, chance.sample(leaps, chance.randint(0 if rides else 1, 4)), rides))
    return kinds


def some_position(chance, places, edges=(None, None, None, None), most_leap=3, most=7):
    """Some position of which all squares have their columns and rows among these places, and goal and turn are any."""
    kinds = some_kinds(chance, most_leap)
    others = [kind.name for kind in kinds[1:]]
    sides = [side for side, edge in zip(SIDES, edges) if edge is not None]
    goals = [("hold",), ("take", chance.choice(others))]
    goals.extend([("reach", side, chance.choice(others + ["chief"])) for side in sides])
    columns, rows = places
    squares = [(column, row) for column in columns for row in rows]
    chance.shuffle(squares)
    goal = chance.choice(goals)
    pieces = [(1, "chief", *squares.pop())]
    if squares and chance.random() < 0.7:
        pieces.append((0, "chief", *squares.pop()))
    if len(pieces) == 2 and goal != ("hold",) and chance.random() < 0.3:
        del pieces[0]
    for _ in range(chance.randint(0, most - len(pieces))):
        if squares:
            pieces.append((chance.randint(0, 1), chance.choice(others), *squares.pop()))
    stones = [squares.pop() for _ in range(chance.choice([0, 0, 1, 2, 4])) if squares]
    return Position(Game(kinds, edges, goal), pieces, stones, chance.randint(0, 1))
