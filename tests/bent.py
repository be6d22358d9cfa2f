"""Texts that are bent in one place or more, and what is wanted of a class that reads them."""

import random

from examples import assert_raises
from gapsame.errors import BadText
from reference import wanted_error

ITEMS = ("", "x", "lord", "leaps", "rides", ",", "0", "1", "2", "-1", "+1", "01", "-0", "1.0", "up", "left", "high", "stone",
         "axe", "chief", "kind", "edge", "goal", "turn", "piece", "hold", "take", "reach", "abcdefghi", "A", "1" * 70, "1" * 71)
ROWS = ("", " ", "kind", "kind axe", "kind dog rides up", "kind zoo lord leaps 0 1", "edge", "edge left 0", "edge high 90",
        "edge up 0", "goal", "goal hold", "goal take axe", "goal take chief", "goal reach low axe", "turn", "turn 0",
        "turn 2", "piece 0 axe 1 1", "piece 1 chief 7 7", "piece 0 dog 1 2", "piece 1 axe 1", "stone 1 1", "stone 5 9",
        "stone 1", "stone", "x", "kind axe rides up\n")


def with_bent_items(text):
    """The text with each item left out, exchanged, doubled, or with one put in ahead of it."""
    rows = [row.split(" ") for row in text.split("\n")]
    for number, items in enumerate(rows):
        for at in range(len(items) + 1):
            bent = [items[:at] + [other] + items[at:] for other in ITEMS]
            bent.extend([items[:at] + [other] + items[at + 1:] for other in ITEMS])
            bent.extend([items[:at], items[:at] + items[at + 1:], items[:at] + items[at:at + 2][::-1] + items[at + 2:]])
            for others in bent:
                yield "\n".join([" ".join(row) for row in rows[:number] + [others] + rows[number + 1:]])


def with_bent_rows(text):
    """The text with each line left out, told twice, moved, or with one put in ahead of it, and cut off anywhere."""
    rows = text.split("\n")
    for number in range(len(rows) + 1):
        rest = rows[:number] + rows[number + 1:]
        bent = [rows[:number] + [other] + rows[number:] for other in ROWS + tuple(rows)]
        bent.extend([rows[:number], rest])
        bent.extend([rest[:at] + rows[number:number + 1] + rest[at:] for at in range(len(rest) + 1)])
        for others in bent:
            yield "\n".join(others)
    for end in range(len(text)):
        yield text[:end]


def with_many_bent(text, chance, many):
    """The text, so many times, with some items and lines exchanged for others."""
    for _ in range(many):
        rows = [row.split(" ") for row in text.split("\n")]
        for _ in range(chance.randint(1, 3)):
            row = chance.choice(rows)
            row[chance.randrange(len(row))] = chance.choice(ITEMS)
        if chance.random() < 0.5:
            rows.insert(chance.randint(0, len(rows)), chance.choice(ROWS).split(" "))
        yield "\n".join([" ".join(row) for row in rows])


class Bent:
    """Tests of a class with `read`: below it stand what is_of_position, right, bent and values tell of it."""

    def assert_bent(self, text, wanted):
        with self.subTest(text=text[:500]):
            assert_raises(self, BadText(*wanted), self.values.read, text)

    def assert_as_wanted(self, text):
        wanted = wanted_error(text, self.is_of_position)
        if wanted is None:
            self.assertEqual(str(self.values.read(text)), text)
        else:
            self.assert_bent(text, wanted)
        return wanted

    def test_there_and_back(self):
        for text, value in self.right.items():
            self.assertEqual(str(value), text)
            self.assertTrue(self.values.read(text) == value)
            self.assertTrue(self.values.read(text=text) == value)
            self.assertEqual(wanted_error(text, self.is_of_position), None)

    def test_no_strings(self):
        text = list(self.right)[0]
        for value in (None, True, 0, 1.5, b"", text.encode(), [], [text], text.split("\n"), {}, {text: 1}, ("goal", "hold"),
                      self.values, self.right[text], object()):
            assert_raises(self, BadText(0, 0), self.values.read, value)

    def test_first_item_that_cannot_stand(self):
        for text, wanted in self.bent.items():
            self.assert_bent(text, wanted)
            self.assertEqual(wanted_error(text, self.is_of_position), wanted, text)

    def test_bent_in_one_place(self):
        for text in self.right:
            found = [self.assert_as_wanted(other) for bent in (with_bent_items(text), with_bent_rows(text)) for other in bent]
            # Some are texts after all.
            self.assertIn(None, found)

    def test_bent_in_many_places(self):
        chance = random.Random(21)
        for text in self.right:
            for other in with_many_bent(text, chance, 400):
                self.assert_as_wanted(other)
