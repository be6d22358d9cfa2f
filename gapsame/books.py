"""Books and refusals: the papers of who wins, their form, and the ways on that they tell."""

from gapsame.checks import is_list, is_move
from gapsame.errors import BadPaper
from gapsame.papers import Denial, Paper


class Won(Paper):
    """Hand 0 wins: a book shows it."""

    def __init__(self, book):
        Paper.__init__(self, "won", book)
        self.book = self.parts[0]


class Unwon(Denial):
    """Hand 0 does not win: a refusal shows it."""

    def __init__(self, replies):
        Denial.__init__(self, "unwon", replies)
        self.replies = self.parts[0]


def is_book(value):
    """Whether it has the form of a book."""
    if not is_branch(value) or not is_list(value[1]):
        return False
    return all([is_branch(pair) and is_last_book(pair[1]) for pair in value[1]])


def is_refusal(value):
    """Whether it has the form of a refusal."""
    if not is_list(value) or not all([is_branch(pair) for pair in value]):
        return False
    return is_last_refusal(value) or all([is_reply(pair[1]) for pair in value])


def courses(paper):
    """All ways on that a book, a refusal tells, in the order in which they are told."""
    if has_book(paper):
        return courses_of_book(paper.book)
    if has_refusal(paper):
        return courses_of_refusal(paper.replies)
    raise BadPaper("paper")


def is_branch(value):
    """Whether it is a pair of a move and something else."""
    return is_list(value) and len(value) == 2 and is_move(value[0])


def is_empty(value):
    """Whether it is a list of nothing."""
    return is_list(value) and len(value) == 0


def is_last_book(value):
    """Whether it has the form of a book without answers."""
    return is_branch(value) and is_empty(value[1])


def is_last_refusal(value):
    """Whether it has the form of a refusal within 1."""
    return is_list(value) and all([is_branch(pair) and is_empty(pair[1]) for pair in value])


def is_reply(value):
    """Whether it has the form of a reply in a refusal within 2."""
    return value is None or is_branch(value) and is_last_refusal(value[1])


def is_won_paper(value):
    """Whether it is a Won, made by calling this very class."""
    return isinstance(value, Won) and value.__class__.__name__ == "Won"


def is_unwon_paper(value):
    """Whether it is an Unwon, made by calling this very class."""
    return isinstance(value, Unwon) and value.__class__.__name__ == "Unwon"


def has_book(value):
    """Whether it is a Won of the form of a book."""
    return is_won_paper(value) and is_book(value.book)


def has_refusal(value):
    """Whether it is an Unwon of the form of a refusal."""
    return is_unwon_paper(value) and is_refusal(value.replies)


def courses_of_book(book):
    """The ways on of a book."""
    move, answers = book
    if not answers:
        return ((move,),)
    return tuple([(move, answer, *course) for answer, last in answers for course in courses_of_book(last)])


def courses_of_refusal(replies):
    """The ways on of a refusal."""
    found = []
    for move, reply in replies:
        if not reply:
            found.append((move,))
        else:
            answer, rest = reply
            courses_on = courses_of_refusal(rest) if rest else ((),)
            found.extend([(move, answer, *course) for course in courses_on])
    return tuple(found)
