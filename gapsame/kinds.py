"""Kinds of pieces: their leaps, their rides, and their texts."""

from gapsame.checks import is_list, is_name, is_within
from gapsame.errors import BadKind, BadText, Misfit
from gapsame.texts import lines_of

LONGEST_LEAP = 3
# In the order in which rides are told.
STEPS = {"right": (1, 0), "left": (-1, 0), "up": (0, 1), "down": (0, -1)}


class Kind:
    """A kind of pieces. It does not change."""

    def __init__(self, name, leaps, rides=(), is_lord=False):
        if not is_name(name):
            raise BadKind("name")
        if not are_leaps(leaps):
            raise BadKind("leaps")
        if not are_rides(rides):
            raise BadKind("rides")
        if not isinstance(is_lord, bool):
            raise BadKind("is_lord")
        if is_lord and len(rides) > 0:
            raise Misfit("rides")
        if len(leaps) == 0 and len(rides) == 0:
            raise Misfit("leaps")
        self.name = name
        self.leaps = tuple(sorted([tuple(leap) for leap in leaps]))
        self.rides = tuple([ride for ride in STEPS if ride in rides])
        self.is_lord = is_lord

    def __eq__(self, other):
        return (isinstance(other, Kind) and self.name == other.name and self.leaps == other.leaps
                and self.rides == other.rides and self.is_lord == other.is_lord)

    def __str__(self):
        words = [self.name]
        if self.is_lord:
            words.append("lord")
        if self.leaps:
            words.append("leaps")
            words.append(" , ".join([f"{across} {up}" for across, up in self.leaps]))
        if self.rides:
            words.append("rides")
            words.extend(self.rides)
        return " ".join(words)

    @staticmethod
    def read(text):
        """The Kind whose text this is."""
        lines = lines_of(text)
        kind = read_kind(lines[0])
        if len(lines) > 1:
            raise BadText(1, 0)
        return kind


def steps_of(kind):
    """The steps of its rides, each as the pair (across, up) of the least one."""
    if not isinstance(kind, Kind):
        raise BadKind("kind")
    return tuple([STEPS[ride] for ride in kind.rides])


def are_leaps(value):
    """Whether it is a list of unlike leaps."""
    if not is_list(value) or not all([is_leap(leap) for leap in value]):
        return False
    return len({tuple(leap) for leap in value}) == len(value)


def is_leap(value):
    """Whether it is a leap."""
    if not is_list(value) or len(value) != 2:
        return False
    across, up = value
    return is_leap_part(across) and is_leap_part(up) and (across != 0 or up != 0)


def is_leap_part(value):
    """Whether a leap may lead so far in one direction."""
    return is_within(value, -LONGEST_LEAP, LONGEST_LEAP)


def are_rides(value):
    """Whether it is a list of unlike rides."""
    if not is_list(value) or not all([is_ride(ride) for ride in value]):
        return False
    return len(set(value)) == len(value)


def is_ride(value):
    """Whether it is the word of a ride."""
    return isinstance(value, str) and value in STEPS


def read_kind(line):
    """The Kind whose text all items are that are left in the line."""
    if not is_name(line.seen()):
        line.refuse()
    name = line.take()
    is_lord = line.skip("lord")
    leaps = read_leaps(line) if line.skip("leaps") else []
    rides = read_rides(line) if not is_lord and line.skip("rides") else []
    if line.is_left() or not leaps and not rides:
        line.refuse()
    return Kind(name, leaps, rides, is_lord)


def read_leaps(line):
    """The leaps behind the word leaps, one at least."""
    # Below every leap, so that any one may be the first.
    lowest = (-LONGEST_LEAP, -LONGEST_LEAP - 1)
    leaps = [read_leap(line, lowest)]
    while line.skip(","):
        leaps.append(read_leap(line, leaps[-1]))
    return leaps


def read_leap(line, last):
    """The next leap of the line, which is greater than the last one."""
    across = line.integer()
    if not is_leap_part(across) or across < last[0]:
        line.refuse()
    line.take()
    leap = (across, line.integer())
    if not is_leap(leap) or leap <= last:
        line.refuse()
    line.take()
    return leap


def read_rides(line):
    """The rides behind the word rides, one at least, to the end of the line."""
    later = list(STEPS)
    rides = []
    while not rides or line.is_left():
        if line.seen() not in later:
            line.refuse()
        rides.append(line.take())
        later = later[later.index(rides[-1]) + 1:]
    return rides
