"""Texts read line by line, and item by item, up to the first item that cannot stand."""

from gapsame.errors import BadText

DIGITS = "0123456789"
MOST_DIGITS = 70


def integer_of(item):
    """The integer that an item writes, None if it writes none."""
    digits = item[1:] if item.startswith("-") else item
    if not 1 <= len(digits) <= MOST_DIGITS:
        return None
    if not all([sign in DIGITS for sign in digits]):
        return None
    if digits.startswith("0") and item != "0":
        return None
    return int(item)


def lines_of(text):
    """The lines of a text, each to be read from its first item on."""
    if not isinstance(text, str):
        raise BadText(0, 0)
    return [Line(number, row) for number, row in enumerate(text.split("\n"))]


class Line:
    """A line of a text while it is read. It changes: what is read lies ahead of at."""

    def __init__(self, number, row):
        self.number = number
        self.words = row.split(" ")
        self.at = 0

    def is_left(self):
        """Whether there is an item left to be read."""
        return self.at < len(self.words)

    def seen(self):
        """The next item, which is not read by this; None if there is none."""
        return self.words[self.at] if self.is_left() else None

    def integer(self):
        """The integer that the next item writes; None if it writes none, or there is none."""
        return integer_of(self.words[self.at]) if self.is_left() else None

    def take(self):
        """Reads the next item, and returns it."""
        self.at += 1
        return self.words[self.at - 1]

    def skip(self, word):
        """Reads the next item if it is this word, and returns whether it is."""
        if self.seen() != word:
            return False
        self.at += 1
        return True

    def refuse(self):
        """Refuses the next item; if there is none it is missing, and at is the number of items."""
        raise BadText(self.number, self.at)

    def refuse_rest(self):
        """Refuses the next item if there is one, as one too many."""
        if self.is_left():
            self.refuse()


class Text:
    """A text while it is read, line by line. It changes: the lines ahead of at are begun."""

    def __init__(self, text):
        self.lines = lines_of(text)
        self.at = 0

    def is_ended(self):
        """Whether no line is left."""
        return self.at == len(self.lines)

    def begin(self, words):
        """Begins the next line, whose first item must be one of these words, and returns it, behind this item."""
        if self.is_ended():
            raise BadText(self.at, 0)
        line = self.lines[self.at]
        if line.seen() not in words:
            line.refuse()
        line.take()
        self.at += 1
        return line

    def refuse_rest(self):
        """Refuses the next line if there is one, as one too many."""
        if not self.is_ended():
            raise BadText(self.at, 0)

    def refuse_whole(self):
        """Refuses the last item of the last line: only the whole shows that it can be no such text."""
        raise BadText(len(self.lines) - 1, len(self.lines[-1].words) - 1)
