"""Desks, which are told orders."""

from gapsame.asks import answer_to
from gapsame.deeds import deed_done
from gapsame.errors import Nothing, TooMany
from gapsame.orders import is_ask, read_order
from gapsame.setups import Setup

MOST_ORDERS = 200


class Desk:
    """A desk. It changes with each deed."""

    def __init__(self):
        self.log = ()
        # What it had at first, and behind each deed of the log.
        self.setups = [Setup()]
        # The deeds that were taken back, the last one last, each with what the desk had behind it.
        self.undone = []

    def __eq__(self, other):
        return isinstance(other, Desk) and self.log == other.log

    def __len__(self):
        return len(self.log)

    def told(self, order):
        """Tells it an order, and returns the answer."""
        word, parts = read_order(order)
        if is_ask(word):
            return answer_to(self.setups[-1], word, parts)
        if len(self.log) >= MOST_ORDERS:
            raise TooMany("orders", MOST_ORDERS)
        later, answer = deed_done(self.setups[-1], word, parts)
        self.log = (*self.log, order)
        self.setups.append(later)
        self.undone = []
        return answer

    def back(self):
        """Takes the last deed back, and returns its order."""
        if len(self.log) == 0:
            raise Nothing()
        order = self.log[-1]
        self.log = self.log[:-1]
        self.undone.append((order, self.setups.pop()))
        return order

    def again(self):
        """Does the deed again that was taken back last, and returns its order."""
        if len(self.undone) == 0:
            raise Nothing()
        order, later = self.undone.pop()
        self.log = (*self.log, order)
        self.setups.append(later)
        return order

    def twin(self):
        """A second desk with an equal log, and nothing taken back."""
        desk = Desk()
        desk.log = self.log
        desk.setups = list(self.setups)
        return desk
