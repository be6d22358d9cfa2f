"""The forms of orders, told once more, and a plain model of a desk to compare with."""

import re

from gapsame.errors import BadText
from gapsame.games import Game
from gapsame.kinds import Kind
from gapsame.positions import Position
from reference import HAND, NAME, NUMBER, SIDE, SIDES

AXIS, FROM_0, FROM_1 = "\\A(columns|rows)\\Z", "\\A(0|[1-9][0-9]{0,69})\\Z", "\\A[1-9][0-9]{0,69}\\Z"
N, M, SIZE = "\\A[12]\\Z", "\\A([0-9]|1[0-2])\\Z", "\\A([1-9]|[1-5][0-9]|60)\\Z"
SQUARE, MOVE = [NUMBER] * 2, [NUMBER] * 4
DEEDS = {
    "edge": [[SIDE, NUMBER], [SIDE, "\\Anone\\Z"]], "goal": [["\\Ahold\\Z"], ["\\Atake\\Z", NAME],
                                                             ["\\Areach\\Z", SIDE, NAME]],
    "turn": [[HAND]], "piece": [[HAND, NAME, *SQUARE]], "stone": [SQUARE], "clear": [SQUARE], "keep": [[NAME]],
    "use": [[NAME]],
    "cut": [[M]], "grow": [[AXIS, FROM_0, FROM_1]], "quarter": [[]], "mirror": [[]], "shift": [SQUARE], "go": [MOVE],
    "play": [[N]],
    "reply": [[]], "tell": [MOVE], "stop": [[]], "kind": None,
}
ASKS = {
    "kinds": [[]], "names": [[]], "text": [[]], "at": [SQUARE], "struck": [[*SQUARE, HAND]], "may": [MOVE],
    "let": [MOVE], "state": [[]],
    "columns": [[]], "rows": [[]], "bound": [[M]], "alike": [[NAME, M]], "wins": [[N]], "first": [[N]],
    "family": [[AXIS, FROM_0]],
    "picture": [[*SQUARE, SIZE, SIZE]], "left": [[]], "field": [[]],
}


def wanted_item(order):
    """The index of the first item that cannot stand, None if the order is one."""
    items = order.split(" ")
    word = items[0]
    if word == "kind":
        try:
            # A question mark cannot stand anywhere, as a line feed cannot.
            Kind.read(" ".join(items[1:]).replace("\n", "?") if len(items) > 1 else "?")
        except BadText as error:
            return error.item + 1
        return None
    forms = {**DEEDS, **ASKS}.get(word)
    if forms is None:
        return 0
    found = []
    for form in forms:
        right = [bool(re.search(pattern, item)) for pattern, item in zip(form, items[1:])]
        many = [*right, False].index(False)
        if many == len(form) == len(items) - 1:
            return None
        found.append(many + 1)
    return max(found)


class Model:
    """What a desk sets up, kept as plainly as may be; without its play."""

    def __init__(self):
        self.kinds, self.edges, self.goal, self.turn = {}, dict.fromkeys(SIDES), ("hold",), 0
        self.pieces, self.stones, self.kept = [], [], {}

    def position(self):
        return Position(Game(list(self.kinds.values()), [self.edges[side] for side in SIDES], self.goal), self.pieces,
                        self.stones, self.turn)

    def clear(self, square):
        self.pieces = [piece for piece in self.pieces if piece[2:] != square]
        self.stones = [stone for stone in self.stones if stone != square]

    def use(self, position):
        self.kinds = {kind.name: kind for kind in position.game.kinds}
        self.edges, self.goal = dict(zip(SIDES, position.game.edges)), position.game.goal
        self.pieces, self.stones, self.turn = list(position.pieces), list(position.stones), position.turn

    def do(self, order):
        """Does one of the deeds that set something up, all of which fits."""
        word, *items = order.split(" ")
        if word == "kind":
            kind = Kind.read(" ".join(items))
            self.kinds[kind.name] = kind
        elif word == "edge":
            self.edges[items[0]] = None if items[1] == "none" else int(items[1])
        elif word == "goal":
            self.goal = tuple(items)
        elif word == "turn":
            self.turn = int(items[0])
        elif word in ("piece", "stone", "clear"):
            square = int(items[-2]), int(items[-1])
            self.clear(square)
            if word == "piece":
                self.pieces.append((int(items[0]), items[1], *square))
            elif word == "stone":
                self.stones.append(square)
        elif word == "keep":
            self.kept[items[0]] = self.position()
        elif word == "use":
            self.use(self.kept[items[0]])
