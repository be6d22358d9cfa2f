"""The texts of kinds, there and back, and the first item that cannot stand."""

import random
import unittest
from itertools import combinations

from examples import assert_raises
from gapsame.errors import BadText
from gapsame.kinds import Kind
from gapsame.texts import integer_of

AROUND = [(0, 1), (1, 1), (1, 0), (1, -1), (0, -1), (-1, -1), (-1, 0), (-1, 1)]
RIDES = ("right", "left", "up", "down")
ALL_LEAPS = [(across, up) for across in range(-3, 4) for up in range(-3, 4) if (across, up) != (0, 0)]
TEXTS = {
    "a leaps 0 1": ("a", [(0, 1)]),
    "abcdefgh leaps -3 3 , 3 -3": ("abcdefgh", [(3, -3), (-3, 3)]),
    "runner rides right left up down": ("runner", [], RIDES[::-1]),
    "both leaps -1 0 , 0 -2 , 0 3 , 2 0 rides left down": (
        "both", [(0, 3), (2, 0), (-1, 0), (0, -2)], ["down", "left"]),
    "chief lord leaps -1 -1 , -1 0 , -1 1 , 0 -1 , 0 1 , 1 -1 , 1 0 , 1 1": ("chief", AROUND, (), True),
    "king lord leaps 1 0": ("king", [(1, 0)], [], True),
    "reach leaps 1 0 rides up": ("reach", [(1, 0)], ["up"]),
}
# Each text with the index of its first item that cannot stand.
BENT = {
    "": 0, " ": 0, "  ": 0, "A leaps 0 1": 0, "abcdefghi leaps 0 1": 0, "a1 rides up": 0, "lord leaps 0 1": 0,
    "leaps 0 1": 0, "rides up": 0, "stone rides up": 0, "1 rides up": 0, " a rides up": 0, "\ta rides up": 0,
    "a": 1, "a ": 1, "a  rides up": 1, "a b rides up": 1, "a Leaps 0 1": 1, "a 0 1": 1, "a up": 1, "a , 0 1": 1,
    "a stone": 1, "a\trides up": 0, "a rides\tup": 1, "a kind rides up": 1,
    "a lord": 2, "a lord ": 2, "a lord rides up": 2, "a lord lord leaps 0 1": 2, "a lord 0 1": 2, "a lord up": 2,
    "a leaps": 2, "a leaps ": 2, "a leaps rides up": 2, "a leaps , 0 1": 2, "a leaps x 1": 2, "a leaps 4 0": 2,
    "a leaps -4 0": 2, "a leaps +1 0": 2, "a leaps 01 0": 2, "a leaps -0 1": 2, "a leaps -01 0": 2, "a leaps 00 1": 2,
    "a leaps - 1": 2, "a leaps --1 0": 2, "a leaps 1.0 0": 2, "a leaps 1_0 0": 2, "a leaps 1, 0": 2, "a leaps 0,1": 2,
    "a leaps \uff11 0": 2, "a leaps \u00b2 0": 2, "a leaps 10 0": 2, "a leaps 0x1 0": 2, "a leaps one 0": 2,
    "a leaps  0 1": 2, "a leaps 1- 0": 2, "a leaps 1\t0": 2, "a leaps " + "1" * 70 + " 0": 2,
    "a leaps " + "1" * 71 + " 0": 2, "a leaps " + "0" * 5000 + " 0": 2, "a leaps " + "9" * 5000 + " 0": 2,
    "a leaps 1": 3, "a leaps 1 ": 3, "a leaps 0 0": 3, "a leaps 1 4": 3, "a leaps 1 -4": 3, "a leaps 1 +1": 3,
    "a leaps 1 -0": 3, "a leaps 1 01": 3, "a leaps 1 ,": 3, "a leaps 1 rides up": 3, "a leaps 1  0": 3,
    "a leaps 0 -0": 3, "a leaps 0 00": 3, "a leaps 1 0,": 3, "a leaps 1 " + "1" * 71: 3, "a leaps 1 2, 2 2": 3,
    "a leaps 1 0 ": 4, "a leaps 1 0 1 1": 4, "a leaps 1 0 lord": 4, "a leaps 1 0 leaps 1 1": 4, "a leaps 1 0 up": 4,
    "a leaps 1 0  , 1 1": 4, "a leaps 1 0 ; 1 1": 4, "a leaps 1 0 ,, 1 1": 4, "a leaps 1 0 x": 4,
    "a lord leaps 1 0 rides up": 5, "a lord leaps 1 0 lord": 5, "a lord leaps 0 0": 4, "a lord leaps": 3,
    "a leaps 1 0 ,": 5, "a leaps 1 0 , ": 5, "a leaps 1 0 , rides up": 5, "a leaps 1 0 , , 1 1": 5,
    "a leaps 1 0 , 0 3": 5, "a leaps 1 0 , -3 3": 5, "a leaps 1 0 , 4 1": 5, "a leaps 3 3 , 2 3": 5,
    "a leaps 1 0 , 1": 6, "a leaps 1 0 , 1 0": 6, "a leaps 1 0 , 1 -1": 6, "a leaps 1 0 , 1 4": 6,
    "a leaps 3 3 , 3 3": 6, "a leaps 0 -1 , 0 0": 6, "a leaps 1 0 , 1 01": 6, "a leaps -1 0 , 0 0": 6,
    "a leaps 1 0 , 1 1 , 1 1": 9, "a leaps 1 0 , 1 1 , 0 3": 8, "a leaps 1 0 , 1 1 , 1": 9, "a leaps 1 0 , 1 1 ,": 8,
    "a leaps 0 1 rides": 5, "a leaps 0 1 rides ": 5, "a leaps 0 1 rides up , down": 6, "a leaps 0 1 rides up left": 6,
    "a rides": 2, "a rides ": 2, "a rides Up": 2, "a rides leaps": 2, "a rides  up": 2, "a rides , up": 2,
    "a rides high": 2, "a rides 1": 2, "a rides lord": 2, "a rides rides": 2, "a rides up,": 2,
    "a rides up ": 3, "a rides up up": 3, "a rides up right": 3, "a rides down up": 3, "a rides left right": 3,
    "a rides up leaps 0 1": 3, "a rides up lord": 3, "a rides up  down": 3, "a rides up , down": 3, "a rides up x": 3,
    "a rides right up left": 4, "a rides right left up down down": 6, "a rides right left up down ": 6,
    "a rides right left up down right": 6,
}
NO_STRINGS = (None, True, False, 0, 1, 1.5, b"", b"a rides up", [], ["a rides up"], ("a", "rides", "up"), {}, object(),
              Kind("a", [], ["up"]), Kind)
# Behind what may stand, one of these completes a text.
ENDS = ([], ["rides", "up"], ["1"], ["3"], ["3", "3"], ["down"], ["leaps", "0", "1"], ["a", "rides", "up"])


class Texts(unittest.TestCase):
    def assert_bent(self, text, line, item):
        with self.subTest(text=text[:200]):
            assert_raises(self, BadText(line, item), Kind.read, text)

    def test_there_and_back(self):
        for text, values in TEXTS.items():
            kind = Kind(*values)
            self.assertEqual(str(kind), text)
            self.assertTrue(Kind.read(text) == kind)
            self.assertEqual(str(Kind.read(text=text)), text)

    def test_all_rides_there_and_back(self):
        for many in range(1, 5):
            for rides in combinations(RIDES, many):
                for leaps in ([], [(0, 1)], AROUND):
                    kind = Kind("a", leaps, rides[::-1])
                    self.assertTrue(str(kind).endswith(" rides " + " ".join(rides)))
                    self.assertTrue(Kind.read(str(kind)) == kind)

    def test_all_pairs_of_leaps_there_and_back(self):
        for one in ALL_LEAPS:
            for other in ALL_LEAPS:
                text = f"a leaps {one[0]} {one[1]} , {other[0]} {other[1]}"
                if one < other:
                    self.assertEqual(Kind.read(text).leaps, (one, other))
                else:
                    self.assert_bent(text, 0, 5 if other[0] < one[0] else 6)
        kind = Kind("a", ALL_LEAPS[::-1], RIDES)
        self.assertTrue(Kind.read(str(kind)) == kind)

    def test_no_strings(self):
        for value in NO_STRINGS:
            assert_raises(self, BadText(0, 0), Kind.read, value)

    def test_first_item_that_cannot_stand(self):
        for text, item in BENT.items():
            self.assert_bent(text, 0, item)

    def test_line_feeds(self):
        for text in TEXTS:
            for more in ("\n", "\n\n", "\n" + text, "\n ", "\nrides"):
                self.assert_bent(text + more, 1, 0)
            self.assert_bent("\n" + text, 0, 0)
            self.assert_bent(text + " \n", 0, len(text.split(" ")))
            self.assert_bent(text + "\r", 0, len(text.split(" ")) - 1)
        self.assert_bent("a\nrides up", 0, 1)
        self.assert_bent("a lord\nleaps 0 1", 0, 2)
        self.assert_bent("a rides\nup", 0, 2)
        self.assert_bent("a leaps 0\n1", 0, 3)
        self.assert_bent("a leaps 0 1 ,\n1 1", 0, 5)
        self.assert_bent("a leaps 0 1\n, 1 1", 1, 0)
        self.assert_bent("a rides x\nup", 0, 2)

    def test_blanks_at_the_ends(self):
        for text in TEXTS:
            self.assert_bent(" " + text, 0, 0)
            self.assert_bent(text + " ", 0, len(text.split(" ")))
            self.assert_bent(text + "  ", 0, len(text.split(" ")))


class Bent(unittest.TestCase):
    """Each text that is bent in one place is read to just this text, or refused at the right item."""

    def can_begin(self, items):
        """Whether some text that can be read begins with these items, as far as the document looks ahead."""
        # It refuses the up of a leap behind such an across, or a missing across, though none can stand.
        if items[-3:] == ["3", "3", ","] or len(items) > 4 and items[-3:] == ["3", ",", items[-4]]:
            return True
        for end in ENDS:
            try:
                Kind.read(" ".join(items + end))
            except BadText:
                continue
            return True
        return False

    def assert_read_or_refused(self, items):
        text = " ".join(items)
        try:
            kind = Kind.read(text)
        except BadText as error:
            self.assertEqual(error.line, 0, text)
            self.assertTrue(self.can_begin(items[:error.item]), text)
            if error.item < len(items):
                self.assertFalse(self.can_begin(items[:error.item + 1]), text)
            return
        self.assertEqual(str(kind), text)

    def test_one_item_bent(self):
        others = ("", "x", "lord", "leaps", "rides", ",", "0", "1", "-1", "3", "+1", "01", "-0", "4", "up", "right",
                  "9" * 71)
        for text in TEXTS:
            items = text.split(" ")
            for at in range(len(items) + 1):
                for other in others:
                    self.assert_read_or_refused(items[:at] + [other] + items[at:])
                    self.assert_read_or_refused(items[:at] + [other] + items[at + 1:])
                self.assert_read_or_refused(items[:at] + items[at + 1:])
                self.assert_read_or_refused(items[:at] + items[at:at + 1] + items[at:])
                self.assert_read_or_refused(items[:at] + items[at:at + 2][::-1] + items[at + 2:])
                self.assert_read_or_refused(items[:at])

    def test_many_items_bent(self):
        chance = random.Random(11)
        words = ("a", "lord", "leaps", "rides", ",", "0", "1", "-1", "2", "up", "left", "down", "", "x")
        for text in TEXTS:
            for _ in range(300):
                items = text.split(" ")
                for _ in range(chance.randint(1, 3)):
                    items[chance.randrange(len(items))] = chance.choice(words)
                self.assert_read_or_refused(items)


class Integers(unittest.TestCase):
    def test_right(self):
        for value in (0, 1, -1, 9, 10, -10, 123, 10 ** 69, 10 ** 70 - 1, 1 - 10 ** 70):
            self.assertEqual(integer_of(str(value)), value)

    def test_wrong(self):
        for item in ("", "-", "+1", "01", "-01", "00", "-0", "--1", "1-", " 1", "1 ", "1\n", "1_0", "1.0", "1e3", "0x1",
                     "a", "\uff11", "\u00b2", "\u0661", "1" * 71, "-" + "1" * 71, "0" * 71, "9" * 5000):
            self.assertIsNone(integer_of(item))


if __name__ == "__main__":
    unittest.main()
