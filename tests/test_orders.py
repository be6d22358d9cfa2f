"""The orders of a desk: bent in each place, with the item that cannot stand."""

import unittest

from bent import ITEMS
from contests import FAR
from examples import assert_raises
from gapsame.desk import Desk
from gapsame.errors import BadText, FieldError
from orders import ASKS, DEEDS, wanted_item

ORDERS = (
    "kind axe leaps -1 2 , 2 1 rides up", "kind chief lord leaps 0 1", "kind cart rides right left up down",
    "edge left -5", "edge high none",
    "goal hold", "goal take axe", "goal reach low axe", "turn 1", "piece 1 axe 0 -7", "stone 3 4", "clear 3 4",
    "keep near", "use near", "cut 12",
    "grow columns 0 1", "grow rows 2 77", "quarter", "mirror", "shift -3 0", "go 0 0 1 -1", "play 2", "reply",
    "tell 0 0 0 1", "stop",
    "kinds", "names", "text", "at 0 0", "struck 1 2 0", "may 0 0 0 1", "let 0 0 0 1", "state", "columns", "rows",
    "bound 0", "alike near 3", "wins 1",
    "first 2", "family columns 1", "picture 0 -1 60 1", "left", "field",
)
MORE = ("\n", "0\n", "none", "columns", "rows", "row", "reply", "near", "near\n", "3", "12", "13", "60", "61", "70",
        "00", "+0", " ", "-", "1_0", "\u0661",
        "9" * 70, "-" + "9" * 70, "-" + "9" * 71, "up\n", "Axe", "axe1")
# Each order with the item that cannot stand.
BENT = {
    "": 0, " ": 0, " stop": 0, "x": 0, "Stop": 0, "stop ": 1, "stop x": 1, "stop\n": 0, "\nstop": 0, "stop \n": 1,
    "kinds kinds": 1, "kind": 1, "kind ": 1,
    "kind lord": 1, "kind axe": 2, "kind axe up": 2, "kind axe rides": 3, "kind axe rides up up": 4,
    "kind axe rides up left": 4, "kind axe rides up\n": 3,
    "kind axe\nrides up": 1, "kind axe leaps 1 0 , 0 1": 6, "kind axe leaps 1 0 , 1 0": 7, "kind axe leaps 4 0": 3,
    "kind axe leaps 0 0": 4,
    "kind axe leaps 1 0 ,": 6, "kind chief lord rides up": 3, "kind chief lord leaps 0 1 rides up": 6,
    "kind chief lord": 3, "kind axe leaps 01 0": 3,
    "edge": 1, "edge up 0": 1, "edge left": 2, "edge left x": 2, "edge left None": 2, "edge left 0 0": 3,
    "edge left none none": 3, "edge left +1": 2,
    "goal": 1, "goal x": 1, "goal hold axe": 2, "goal take": 2, "goal take lord": 2, "goal take axe axe": 3,
    "goal reach": 2, "goal reach axe": 2,
    "goal reach low": 3, "goal reach low A": 3, "goal reach low axe 0": 4, "turn": 1, "turn 2": 1, "turn 00": 1,
    "turn 0 0": 2, "turn -0": 1,
    "piece 2 chief 0 0": 1, "piece 0 stone 0 0": 2, "piece 0 axe": 3, "piece 0 axe 0": 4, "piece 0 axe 0 01": 4,
    "piece 0 axe 0 0 0": 5, "piece axe 0 0": 1,
    "stone 1": 2, "stone 1 -0": 2, "stone 1 2 3": 3, "clear": 1, "clear 1": 2, "clear a 1": 1, "keep": 1,
    "keep leaps": 1, "keep abcdefghi": 1, "keep a b": 2,
    "use 1": 1, "use near far": 2, "cut": 1, "cut -1": 1, "cut 13": 1, "cut 012": 1, "cut 1 1": 2, "grow": 1,
    "grow column 0 1": 1, "grow columns": 2,
    "grow columns -1 1": 2, "grow columns 0": 3, "grow columns 0 0": 3, "grow columns 0 -1": 3, "grow columns 0 1 1": 4,
    "quarter 1": 1, "mirror 0": 1,
    "shift": 1, "shift 1": 2, "shift 1 1 1": 3, "shift 1 1.0": 2, "go 0 0 1": 4, "go 0 0 1 1 1": 5, "go 0 0 , 1 1": 3,
    "play": 1, "play 0": 1, "play 3": 1,
    "play 1 2": 2, "reply 1": 1, "tell 1 2 3": 4, "tell a": 1, "names x": 1, "text 0": 1, "at 1": 2, "at 1 2 3": 3,
    "struck 1 1": 3, "struck 1 1 2": 3,
    "may 1 1 1": 4, "let 1 1 1 x": 4, "state 0": 1, "columns 0": 1, "rows rows": 1, "bound": 1, "bound 13": 1,
    "alike near": 2, "alike 3 near": 1,
    "alike near 13": 2, "alike near 3 3": 3, "wins": 1, "wins 3": 1, "first 0": 1, "first 1 1": 2, "family": 1,
    "family columns": 2, "family rows -1": 2,
    "family rows 0 1": 3, "picture 0 0 0 1": 3, "picture 0 0 1 0": 4, "picture 0 0 61 1": 3, "picture 0 0 1 61": 4,
    "picture 0 0 1": 4, "picture 0 0 1 1 1": 5,
    "left 0": 1, "field 1": 1, "kinds\n": 0, "at 1\n 2": 1, "at 1 2\n": 2, "at 1\n2": 1, f"at {'1' * 71} 0": 1,
    f"at 0 -{'1' * 71}": 2, "at 0  0": 2, "at  0 0": 1,
}


class Orders(unittest.TestCase):
    def assert_as_wanted(self, order, desks):
        """That a desk refuses what is no order, and nothing changes; whether it is one."""
        wanted = wanted_item(order)
        for desk in desks:
            log = desk.log
            if wanted is None:
                try:
                    desk.twin().told(order)
                except FieldError as error:
                    self.assertNotIsInstance(error, BadText, order)
            else:
                with self.subTest(order=order[:200]):
                    assert_raises(self, BadText(0, wanted), desk.told, order)
            self.assertEqual(desk.log, log)
        return wanted is None

    def setUp(self):
        self.desks = [Desk(), Desk()]
        for order in ("kind axe rides up", "goal take axe", "piece 0 axe 0 0", "keep near"):
            self.desks[1].told(order)

    def test_each_order_is_one(self):
        self.assertEqual({order.split(" ")[0] for order in ORDERS}, set(DEEDS) | set(ASKS))
        for order in ORDERS:
            self.assertTrue(self.assert_as_wanted(order, self.desks), order)

    def test_first_item_that_cannot_stand(self):
        for order, wanted in BENT.items():
            self.assertEqual(wanted_item(order), wanted, order)
            for desk in self.desks:
                assert_raises(self, BadText(0, wanted), desk.told, order)
                assert_raises(self, BadText(0, wanted), desk.told, order=order)

    def test_bent_in_each_place(self):
        many = [0, 0]
        for order in ORDERS:
            items = order.split(" ")
            for at in range(len(items) + 1):
                bent = [items[:at] + [other] + items[at:] for other in ITEMS + MORE]
                bent += [items[:at] + [other] + items[at + 1:] for other in ITEMS + MORE]
                bent += [items[:at], items[:at] + items[at + 1:], items[:at] + items[at:at + 1] * 2 + items[at + 1:],
                         items[:at] + items[at:at + 2][::-1] + items[at + 2:]]
                if at < len(items):
                    word = items[at]
                    misspelt = [word + "\n", "\n" + word, word + "x", word[:-1], word.upper(), word + " ",
                                "+" + word, "0" + word, "-" + word, word + "0"]
                    bent += [items[:at] + [other] + items[at + 1:] for other in misspelt]
                for others in bent:
                    many[self.assert_as_wanted(" ".join(others), self.desks[1:])] += 1
        self.assertGreater(min(many), 300)

    def test_cut_off_anywhere(self):
        for order in ORDERS:
            for end in range(len(order)):
                self.assert_as_wanted(order[:end], self.desks)

    def test_no_strings(self):
        for value in (None, True, 0, 1.5, b"stop", b"", [], ["stop"], ("kinds",), {}, {"stop": 1}, Desk, Desk(),
                      object()):
            for desk in self.desks:
                assert_raises(self, BadText(0, 0), desk.told, value)

    def test_numbers_of_70_digits(self):
        for number in ("9" * 70, "-" + "9" * 70, str(FAR), "0"):
            self.assertEqual(self.desks[0].told(f"at {number} {number}"), "-")
            self.assertEqual(self.desks[0].told(f"stone {number} {number}"), "-")
            self.assertEqual(self.desks[0].told(f"at {number} {number}"), "stone")


if __name__ == "__main__":
    unittest.main()
