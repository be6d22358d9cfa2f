"""What the asks of a desk answer."""

from gapsame.families import family
from gapsame.games import bound
from gapsame.likeness import alike
from gapsame.lines import columns_of, rows_of
from gapsame.moves import is_let, may_go
from gapsame.pictures import picture
from gapsame.setups import kept_by, move_text, position_of, stage_of, state_of
from gapsame.strikes import struck
from gapsame.wins import is_won, judged


def answer_to(setup, word, parts):
    """The answer to an ask."""
    action = ANSWERS[word]
    return action(setup, *parts)


def listed(values):
    """Several values, and a sign for none of them."""
    return " ".join([str(value) for value in values]) if values else "-"


def yes_or_no(value):
    """The word for whether something is so."""
    return "yes" if value else "no"


def text_of(position):
    """The lines of the text of a position, in one line."""
    return " / ".join(str(position).split("\n"))


def ask_kinds(setup):
    """The names of the kinds."""
    return listed(sorted(setup.kinds))


def ask_names(setup):
    """The names of the positions that are kept."""
    return listed(sorted(setup.kept))


def ask_text(setup):
    """The text of the position."""
    return text_of(position_of(setup))


def ask_at(setup, square):
    """What stands on the square."""
    thing = setup.things.get(square)
    if thing is None or thing == "stone":
        return "-" if thing is None else "stone"
    hand, name = thing[:2]
    return f"{hand} {name}"


def ask_struck(setup, square, hand):
    """Whether the square is struck by the hand."""
    return yes_or_no(struck(position_of(setup), square, hand))


def ask_may(setup, move):
    """Whether the move may go."""
    return yes_or_no(may_go(position_of(setup), move))


def ask_let(setup, move):
    """Whether the move is let."""
    return yes_or_no(is_let(position_of(setup), move))


def ask_state(setup):
    """How it is in the position."""
    return state_of(position_of(setup))


def ask_columns(setup):
    """The lines of columns."""
    return listed(columns_of(position_of(setup)))


def ask_rows(setup):
    """The lines of rows."""
    return listed(rows_of(position_of(setup)))


def ask_bound(setup, m):
    """The bound for m."""
    return str(bound(position_of(setup).game, m))


def ask_alike(setup, name, m):
    """Whether the position is alike for m to the one that is kept by this name, or what parts them."""
    kept = kept_by(setup, name)
    paper = alike(kept, position_of(setup), m)
    return "yes" if paper else f"no {paper.part}"


def ask_wins(setup, n):
    """Whether the position is won within n."""
    return yes_or_no(is_won(position_of(setup), n))


def ask_first(setup, n):
    """The first move of a book of the position within n."""
    paper = judged(position_of(setup), n)
    return move_text(paper.book[0]) if paper else "-"


def ask_family(setup, axis, index):
    """Which lengths of the gap are won within 1, from 1 on."""
    return listed([yes_or_no(paper) for paper in family(position_of(setup), axis, index, 1).papers])


def ask_picture(setup, square, wide, high):
    """The picture of so many columns and rows from the square on."""
    return listed(picture(position_of(setup), square, wide, high))


def ask_left(setup):
    """How many moves are left to the play, and which hand is to move."""
    stage = stage_of(setup)
    return f"{stage.left} over" if stage.is_over else f"{stage.left} {stage.position.turn}"


def ask_field(setup):
    """The text of the position at which the play is."""
    return text_of(stage_of(setup).position)


ANSWERS = {
    "kinds": ask_kinds, "names": ask_names, "text": ask_text, "at": ask_at, "struck": ask_struck, "may": ask_may,
    "let": ask_let, "state": ask_state, "columns": ask_columns, "rows": ask_rows, "bound": ask_bound,
    "alike": ask_alike, "wins": ask_wins, "first": ask_first, "family": ask_family, "picture": ask_picture,
    "left": ask_left, "field": ask_field,
}
