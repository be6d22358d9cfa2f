"""The orders that a desk is told: their forms, and how they are read item by item."""

from gapsame.checks import is_within
from gapsame.errors import BadText
from gapsame.families import AXES
from gapsame.games import read_goal, read_integer, read_name, read_side
from gapsame.kinds import read_kind
from gapsame.positions import read_hand
from gapsame.texts import Line

# What stands behind the first word of each deed, and of each ask.
DEEDS = {
    "kind": ("kind",), "edge": ("side", "edge"), "goal": ("goal",), "turn": ("hand",),
    "piece": ("hand", "name", "square"), "stone": ("square",), "clear": ("square",),
    "keep": ("name",), "use": ("name",),
    "cut": ("m",), "grow": ("axis", "index", "length"), "quarter": (), "mirror": (), "shift": ("any", "any"),
    "go": ("move",), "play": ("n",), "reply": (), "tell": ("move",), "stop": (),
}
ASKS = {
    "kinds": (), "names": (), "text": (), "at": ("square",), "struck": ("square", "hand"),
    "may": ("move",), "let": ("move",), "state": (), "columns": (), "rows": (), "bound": ("m",),
    "alike": ("name", "m"), "wins": ("n",), "first": ("n",), "family": ("axis", "index"),
    "picture": ("square", "size", "size"), "left": (), "field": (),
}
# The least and the greatest integer that may stand there, None for no bound.
BOUNDS = {"any": (None, None), "index": (0, None), "length": (1, None), "n": (1, 2), "m": (0, 12), "size": (1, 60)}


def is_ask(word):
    """Whether an order with this first word asks for something; otherwise it is a deed."""
    return word in ASKS


def read_order(order):
    """The first word of an order, and the parts that stand behind it."""
    if not isinstance(order, str):
        raise BadText(0, 0)
    # An item with a line feed in it is of no form, so that the order is read as one line.
    line = Line(0, order)
    word = line.seen()
    if word not in DEEDS and word not in ASKS:
        line.refuse()
    forms = DEEDS[word] if word in DEEDS else ASKS[word]
    line.take()
    parts = [read_part(line, form) for form in forms]
    line.refuse_rest()
    return word, parts


def read_part(line, form):
    """The next items of the line, of this form."""
    if form in BOUNDS:
        least, most = BOUNDS[form]
        return read_bounded(line, least, most)
    if form == "square":
        return read_integer(line), read_integer(line)
    if form == "move":
        return read_part(line, "square"), read_part(line, "square")
    if form == "hand":
        return read_hand(line)
    if form == "name":
        return read_name(line)
    if form == "side":
        return read_side(line)
    if form == "edge":
        return None if line.skip("none") else read_integer(line)
    if form == "axis":
        return read_axis(line)
    return read_kind(line) if form == "kind" else read_goal(line)


def read_bounded(line, least, most):
    """The integer that the next item of the line writes, from least to most."""
    if not is_within(line.integer(), least, most):
        line.refuse()
    return read_integer(line)


def read_axis(line):
    """The next item of the line, the word of an axis."""
    if line.seen() not in AXES:
        line.refuse()
    return line.take()
