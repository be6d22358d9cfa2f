"""Positions: pieces and stones on the field of a game, the turn, and their texts."""

from gapsame.checks import is_integer, is_list, is_square, is_within
from gapsame.errors import BadGame, BadNumber, BadPosition, BadSquare, Misfit
from gapsame.games import Game, game_of, is_between, read_integer, read_last, read_name, read_parts
from gapsame.texts import Text

MOST_PIECES = 16
MOST_STONES = 16


class Position:
    """A position of a game. It does not change."""

    def __init__(self, game, pieces, stones=(), turn=0):
        if not isinstance(game, Game):
            raise BadGame("game")
        if not are_pieces(game, pieces):
            raise BadPosition("pieces")
        if not are_stones(stones):
            raise BadPosition("stones")
        if not is_within(turn, 0, 1):
            raise BadNumber("turn")
        if not do_pieces_fit(game, pieces):
            raise Misfit("pieces")
        if not do_stones_fit(game, pieces, stones):
            raise Misfit("stones")
        self.game = game
        self.pieces = tuple(sorted([tuple(piece) for piece in pieces]))
        self.stones = tuple(sorted([tuple(stone) for stone in stones]))
        self.turn = turn
        # The same once more, to be found by its square.
        self.standing = standing_of(self.pieces, self.stones)
        self.lords = lords_of(game, self.pieces)

    def __eq__(self, other):
        return (isinstance(other, Position) and self.game == other.game and self.pieces == other.pieces
                and self.stones == other.stones and self.turn == other.turn)

    def __str__(self):
        rows = [str(self.game), f"turn {self.turn}"]
        rows.extend([f"piece {hand} {name} {column} {row}" for hand, name, column, row in self.pieces])
        rows.extend([f"stone {column} {row}" for column, row in self.stones])
        return "\n".join(rows)

    @staticmethod
    def read(text):
        """The Position whose text this is."""
        told = Text(text)
        parts = read_parts(told)
        turn = read_turn(told)
        pieces, stones = read_things(told)
        game = game_of(told, parts)
        if not can_stand(game, pieces, stones):
            told.refuse_whole()
        position = Position(game, pieces, stones, turn)
        if str(position) != text:
            told.refuse_whole()
        return position


def at(position, square):
    """The piece that stands on the square, "stone" for a stone, None for nothing."""
    need_position(position, "position")
    if not is_square(square):
        raise BadSquare("square")
    return position.standing.get(tuple(square))


def lord_at(position, hand):
    """The square of the hand's lord, None if it has none."""
    need_position(position, "position")
    if not is_within(hand, 0, 1):
        raise BadNumber("hand")
    return position.lords[hand]


def need_position(value, part):
    """Refuses any other value than a Position."""
    if not isinstance(value, Position):
        raise BadPosition(part)


def are_pieces(game, value):
    """Whether it is a list of 1 to 16 pieces of kinds of the game."""
    return is_list(value) and 1 <= len(value) <= MOST_PIECES and all([is_piece(game, piece) for piece in value])


def is_piece(game, value):
    """Whether it is a list of a hand, the name of a kind of the game, a column and a row."""
    if not is_list(value) or len(value) != 4:
        return False
    hand, name, column, row = value
    if not is_within(hand, 0, 1) or not isinstance(name, str) or name not in game.table:
        return False
    return is_integer(column) and is_integer(row)


def are_stones(value):
    """Whether it is a list of at most 16 squares."""
    return is_list(value) and len(value) <= MOST_STONES and all([is_square(stone) for stone in value])


def do_pieces_fit(game, pieces):
    """Whether the pieces stand on unlike squares of the field, each hand with as many lords as it may have."""
    squares = squares_of(pieces)
    if len(set(squares)) != len(squares) or not are_on_field(game, squares):
        return False
    of_lords = [hand for hand, name, _, _ in pieces if game.table[name].is_lord]
    if of_lords.count(0) > 1 or of_lords.count(1) > 1:
        return False
    return game.goal != ("hold",) or 1 in of_lords


def do_stones_fit(game, pieces, stones):
    """Whether the stones stand on unlike squares of the field, on none of them a piece."""
    squares = squares_of(pieces) + [tuple(stone) for stone in stones]
    return len(set(squares)) == len(squares) and are_on_field(game, stones)


def squares_of(pieces):
    """The squares on which the pieces stand."""
    return [(column, row) for _, _, column, row in pieces]


def are_on_field(game, squares):
    """Whether all squares are on the field."""
    return all([is_between(game.edges, square) for square in squares])


def standing_of(pieces, stones):
    """What stands on each square on which something stands: a piece, or "stone"."""
    standing = {(column, row): (hand, name, column, row) for hand, name, column, row in pieces}
    for stone in stones:
        standing[stone] = "stone"
    return standing


def lords_of(game, pieces):
    """For each hand the square of its lord, None if it has none."""
    lords = [None, None]
    for hand, name, column, row in pieces:
        if game.table[name].is_lord:
            lords[hand] = (column, row)
    return tuple(lords)


def can_stand(game, pieces, stones):
    """Whether a position can be made of these pieces and stones."""
    if not are_pieces(game, pieces) or not are_stones(stones):
        return False
    return do_pieces_fit(game, pieces) and do_stones_fit(game, pieces, stones)


def read_turn(told):
    """The hand that the next line of a text tells, that of the turn."""
    line = told.begin(("turn",))
    turn = read_hand(line)
    line.refuse_rest()
    return turn


def read_things(told):
    """The pieces, one at least, and the stones that the next lines of a text tell, up to its end."""
    pieces, stones, words = [], [], ("piece",)
    while not pieces or not told.is_ended():
        line = told.begin(words)
        if line.words[0] == "piece":
            pieces.append(read_piece(line))
            words = ("piece", "stone")
        else:
            stones.append((read_integer(line), read_last(line)))
            words = ("stone",)
    return pieces, stones


def read_piece(line):
    """The piece behind the word piece, to the end of the line."""
    return read_hand(line), read_name(line), read_integer(line), read_last(line)


def read_hand(line):
    """The next item of the line, a hand."""
    if line.seen() not in ("0", "1"):
        line.refuse()
    return int(line.take())
