"""Papers, which tell an answer and what shows it, and denials, the papers that say no."""

from gapsame.checks import is_list


def fixed(value):
    """The value with tuples in the place of lists, all the way in."""
    if is_list(value):
        return tuple([fixed(item) for item in value])
    return value


class Paper:
    """A paper with its word and its parts. It is true."""

    def __init__(self, word, *parts):
        self.word = fixed(word)
        self.parts = fixed(parts)

    def __eq__(self, other):
        return is_same_paper(self, other)

    def __bool__(self):
        return True


class Denial(Paper):
    """A paper that says no. It is false."""

    def __init__(self, word, *parts):
        Paper.__init__(self, word, *parts)

    def __eq__(self, other):
        return is_same_paper(self, other)

    def __bool__(self):
        return False


def is_same_paper(paper, other):
    """Whether both are papers of just one class, with equal words and parts."""
    if not isinstance(other, Paper):
        return False
    # All classes of papers are below Paper, so that it is their names that tell them apart.
    if paper.__class__.__name__ != other.__class__.__name__:
        return False
    return paper.word == other.word and paper.parts == other.parts
