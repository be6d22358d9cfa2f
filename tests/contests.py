"""What the document says of wins, books and refusals, told once more over all moves that tell; and bent papers.

Let, done and reached are those of gapsame.moves, which have tests of their own; nothing of gapsame.chosen,
gapsame.wins and gapsame.check_wins stands behind it.
"""

from gapsame.games import Game
from gapsame.kinds import Kind
from gapsame.lines import laid
from gapsame.moves import done, is_let, reached
from gapsame.positions import Position
from pairs import FAR, telling_moves
from reference import AROUND, RIDES, bound_of, gaps_along, parts

KINDS = {
    "chief": Kind("chief", AROUND, (), True), "runner": Kind("runner", [], RIDES),
    "sled": Kind("sled", [], ["left", "down"]),
    "cart": Kind("cart", AROUND[:3], ["right", "up"]), "hop": Kind("hop", AROUND), "post": Kind("post", [(1, 0)]),
}


def all_let(position, n):
    """Let moves, all there are but for some that are matched, for 2 n, with one of these."""
    moves = telling_moves(position, bound_of(position.game, 2 * n - 1))
    return sorted({move for move in moves if is_let(position, move)})


def wins(position, n):
    """Whether hand 0, which has the turn, wins within n."""
    moves = all_let(position, n)
    if any(reached(done(position, move)) for move in moves):
        return True
    return n == 2 and any(wins_behind(done(position, move)) for move in moves)


def wins_behind(position):
    """Whether hand 1, which has the turn, has a let move, and hand 0 wins within 1 behind each one."""
    answers = all_let(position, 2)
    return bool(answers) and all(wins(done(position, answer), 1) for answer in answers)


def is_listed(position, n, m, moves):
    """Whether these are unlike let moves such that each let move is matched, for m, with one of them."""
    if len(set(moves)) < len(moves) or not all(is_let(position, move) for move in moves):
        return False
    behind = [(move[0], done(position, move)) for move in moves]
    for move in all_let(position, n):
        later = done(position, move)
        if move not in moves and not any(start == move[0] and parts(later, other, m - 1) is None for start,
                                         other in behind):
            return False
    return True


def is_pair(value):
    return isinstance(value, (list, tuple)) and len(value) == 2


def is_plain_move(value):
    """Whether it is a pair of pairs of integers."""
    if not is_pair(value) or not all(is_pair(square) for square in value):
        return False
    return all(isinstance(part, int) and not isinstance(part, bool) for square in value for part in square)


def tuples(value):
    """The value with tuples in the place of lists."""
    return tuple(tuples(item) for item in value) if isinstance(value, (list, tuple)) else value


def is_right_book(position, n, book):
    """Whether any value is a book of the position within n."""
    if not is_pair(book) or not is_plain_move(book[0]) or not isinstance(book[1], (list, tuple)):
        return False
    move, answers = tuples(book)
    if not is_let(position, move):
        return False
    later = done(position, move)
    if reached(later) or n == 1 or not answers:
        return reached(later) and answers == ()
    if not all(is_pair(pair) and is_plain_move(pair[0]) for pair in answers):
        return False
    if not is_listed(later, 2, 3, [answer for answer, _ in answers]):
        return False
    return all(is_right_book(done(later, answer), 1, last) for answer, last in answers)


def is_right_refusal(position, n, replies):
    """Whether any value is a refusal of the position within n."""
    if not isinstance(replies, (list, tuple)) or not all(is_pair(pair) and is_plain_move(pair[0]) for pair in replies):
        return False
    pairs = tuples(replies)
    if not is_listed(position, n, 2 * n, [move for move, _ in pairs]):
        return False
    for move, reply in pairs:
        later = done(position, move)
        if reached(later) or n == 1 and reply != () or n == 2 and not is_right_reply(later, reply):
            return False
    return True


def is_right_reply(position, reply):
    if not all_let(position, 2):
        return reply is None
    if not is_pair(reply) or not is_plain_move(reply[0]) or not is_let(position, reply[0]):
        return False
    return is_right_refusal(done(position, reply[0]), 1, reply[1])


def ways_bent(value, others, depth=6):
    """The value, all the way in, with an item left out, doubled, exchanged for others, or for the one beside it."""
    if depth == 0 or not isinstance(value, (list, tuple)):
        return
    for at in range(len(value)):
        head, item, tail = value[:at], value[at:at + 1], value[at + 1:]
        yield head + tail
        yield head + item + item + tail
        yield tail[:1] + item + tail[1:] if at == 0 else item + head + tail
        for other in others:
            yield head + (other,) + tail
        for inner in ways_bent(value[at], others, depth - 1):
            yield head + (inner,) + tail


def lists(value):
    """The value with lists in the place of tuples."""
    return [lists(item) for item in value] if isinstance(value, (list, tuple)) else value


def some_lines(chance, edges, gaps):
    """Some lines with these gaps, the edges beside the outermost ones, and the places on which something may stand."""
    lines = [chance.randint(-5, 5)]
    for gap in gaps:
        lines.append(lines[-1] + gap)
    has_least, has_most = edges
    least, most = lines[0] + 1 if has_least else None, lines[-1] - 1 if has_most else None
    places = [line for line in lines if (least is None or line >= least) and (most is None or line <= most)]
    return places, least, most


def some_contest(chance, many_gaps, gaps, many=4):
    """Some position of the kinds above in which hand 0 has the turn, one piece of which rides; None for no room."""
    sides = [chance.random() < 0.5 for _ in range(4)]
    columns, left, right = some_lines(chance, sides[:2], [chance.choice(gaps) for _ in range(many_gaps)])
    rows, low, high = some_lines(chance, sides[2:], [chance.choice(gaps) for _ in range(many_gaps)])
    squares = [(column, row) for column in columns for row in rows]
    chance.shuffle(squares)
    if len(squares) < many + 1 or left is not None and right is not None and left > right:
        return None
    if low is not None and high is not None and low > high:
        return None
    rider, prey = chance.choice(["runner", "sled", "cart"]), chance.choice(["hop", "post", "post"])
    goals = [("hold",), ("take", prey), ("take", prey)]
    goals += [("reach", side, chance.choice(["chief", "hop", rider])) for side, edge in
              zip(("left", "right", "low", "high"), (left, right, low, high)) if edge is not None]
    goal = chance.choice(goals)
    pieces = [(chance.choice([0, 0, 0, 0, 1]), rider, *squares.pop())]
    if goal[0] == "take":
        pieces.append((1, prey, *squares.pop()))
    if goal == ("hold",) or chance.random() < 0.3:
        pieces.append((1, "chief", *squares.pop()))
    if len(pieces) < many and chance.random() < 0.6:
        pieces.append((0, "chief", *squares.pop()))
    while len(pieces) < many:
        pieces.append((0 if goal[0] == "take" else chance.randint(0, 1), chance.choice(["hop", "post"]),
                       *squares.pop()))
    kinds = [KINDS[name] for name in ("chief", "hop", "post", rider)]
    return Position(Game(kinds, (left, right, low, high), goal), pieces, [squares.pop()][:chance.randint(0, 1)])


def some_contests(chance, wanted, many_gaps, gaps, many=4):
    """So many of them."""
    found = []
    while len(found) < wanted:
        position = some_contest(chance, many_gaps, gaps, many)
        if position is not None:
            found.append(position)
    return found


def spread(chance, position, m):
    """Some position that is alike for m, with each gap that is long enough made any other one that is."""
    most, told = bound_of(position.game, m), []
    for axis in (0, 1):
        gaps = gaps_along(position, axis)
        lines = [chance.choice([0, -7, FAR])]
        for gap in gaps:
            lines.append(lines[-1] + (gap if gap < most else chance.choice([most, most + 1, 3 * most, FAR])))
        told.append(lines)
    return laid(position, *told)


def some_holds(chance, wanted, fars):
    """So many positions in which the chief of hand 1 stands near a corner, and a runner and a chief come at it."""
    found = []
    while len(found) < wanted:
        squares = [(chance.randint(0, 2), chance.randint(0, 1)), (chance.randint(0, 4), chance.randint(0, 3)),
                   (chance.choice(fars), chance.choice(fars)), (chance.randint(0, 4), chance.randint(0, 4))]
        if len(set(squares)) == len(squares):
            game = Game([KINDS["chief"], KINDS["runner"]], (0, chance.choice([None, 4]), 0, None))
            if game.edges[1] is None or squares[2][0] <= 4:
                pieces = [(1, "chief", *squares[0]), (0, "chief", *squares[1]), (0, "runner", *squares[2])]
                found.append(Position(game, pieces, [squares[3]][:chance.randint(0, 1)]))
    return found
