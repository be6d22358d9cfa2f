"""What any value is: an integer, a square, a move, a name."""

LETTERS = "abcdefghijklmnopqrstuvwxyz"
LONGEST_NAME = 8
# These words stand in the texts of kinds and positions, where a name may stand as well.
BARRED_NAMES = ("lord", "leaps", "rides", "stone")


def is_integer(value):
    """Whether it is an integer; True and False are none."""
    return isinstance(value, int) and not isinstance(value, bool)


def is_within(value, least, most):
    """Whether it is an integer from least to most; None is no bound."""
    if not is_integer(value):
        return False
    if least is not None and value < least:
        return False
    return most is None or value <= most


def is_list(value):
    """Whether it is a list or a tuple, which may be passed for one another."""
    return isinstance(value, (list, tuple))


def is_square(value):
    """Whether it is a pair of integers, a column and a row."""
    return is_list(value) and len(value) == 2 and is_integer(value[0]) and is_integer(value[1])


def is_move(value):
    """Whether it is a pair of squares, from one to the other."""
    return is_list(value) and len(value) == 2 and is_square(value[0]) and is_square(value[1])


def is_name(value):
    """Whether it can be the name of a kind."""
    if not isinstance(value, str) or not 1 <= len(value) <= LONGEST_NAME:
        return False
    return value not in BARRED_NAMES and all([sign in LETTERS for sign in value])
