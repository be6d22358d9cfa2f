"""What the deeds of a desk do."""

from gapsame.errors import Misfit
from gapsame.families import grown
from gapsame.games import SIDES
from gapsame.likeness import cut
from gapsame.moves import done, is_let
from gapsame.plays import answered_by, begun, replied
from gapsame.setups import copied, kept_by, move_text, position_of, set_up, stage_of, state_of
from gapsame.turns import mirrored, moved, turned


def deed_done(setup, word, parts):
    """The Setup behind the deed, and the answer to it; the one that is passed does not change."""
    later = copied(setup)
    action = ACTIONS[word]
    answer = action(later, *parts)
    return later, "-" if answer is None else answer


def do_kind(setup, kind):
    """Makes this kind one of the kinds, in the place of one with its name."""
    setup.kinds[kind.name] = kind


def do_edge(setup, side, edge):
    """Makes this the edge of the side, None for no edge."""
    setup.edges[SIDES.index(side)] = edge


def do_goal(setup, goal):
    """Makes this the goal."""
    setup.goal = goal


def do_turn(setup, hand):
    """Makes it the turn of this hand."""
    setup.turn = hand


def do_piece(setup, hand, name, square):
    """Sets a piece on the square, in the place of what stood there."""
    setup.things[square] = (hand, name, *square)


def do_stone(setup, square):
    """Sets a stone on the square, in the place of what stood there."""
    setup.things[square] = "stone"


def do_clear(setup, square):
    """Clears the square."""
    if square in setup.things:
        del setup.things[square]


def do_keep(setup, name):
    """Keeps the position by this name."""
    setup.kept[name] = position_of(setup)


def do_use(setup, name):
    """Sets up the position that is kept by this name."""
    set_up(setup, kept_by(setup, name))


def do_cut(setup, m):
    """Sets up the position cut for m."""
    set_up(setup, cut(position_of(setup), m))


def do_grow(setup, axis, index, gap):
    """Sets up the position grown to this length of the gap."""
    set_up(setup, grown(position_of(setup), axis, index, gap))


def do_quarter(setup):
    """Sets up the position turned by a quarter."""
    set_up(setup, turned(position_of(setup)))


def do_mirror(setup):
    """Sets up the position mirrored."""
    set_up(setup, mirrored(position_of(setup)))


def do_shift(setup, across, up):
    """Sets up the position moved."""
    set_up(setup, moved(position_of(setup), across, up))


def do_go(setup, move):
    """Sets up the position behind the move, which is to be let, and answers how it is there."""
    position = position_of(setup)
    if not is_let(position, move):
        raise Misfit("move")
    later = done(position, move)
    set_up(setup, later)
    return state_of(later)


def do_play(setup, n):
    """Begins a play of the position within n."""
    setup.stage = begun(position_of(setup), n)


def do_reply(setup):
    """Makes the play reply, and answers the move."""
    stage = stage_of(setup)
    setup.stage = replied(stage)
    return move_text(stage.move)


def do_tell(setup, move):
    """Tells the play the move."""
    setup.stage = answered_by(stage_of(setup), move)


def do_stop(setup):
    """Ends the play, which is to be begun."""
    # This refuses where there is none.
    stage_of(setup)
    setup.stage = None


ACTIONS = {
    "kind": do_kind, "edge": do_edge, "goal": do_goal, "turn": do_turn, "piece": do_piece, "stone": do_stone,
    "clear": do_clear, "keep": do_keep, "use": do_use, "cut": do_cut, "grow": do_grow, "quarter": do_quarter,
    "mirror": do_mirror, "shift": do_shift, "go": do_go, "play": do_play, "reply": do_reply, "tell": do_tell,
    "stop": do_stop,
}
