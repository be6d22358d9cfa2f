"""Papers and denials: words, parts, truth, equality."""

import unittest

from examples import run_examples
from gapsame import papers
from gapsame.papers import Denial, Paper, fixed

EXAMPLES = """
>>> note = Paper("note", [1, (2, [3])])
>>> [note.parts, bool(note), bool(Denial("no")), note == Denial("note", [1, (2, [3])]), fixed("[1]")]
[((1, (2, (3,))),), True, False, False, '[1]']
"""


class Blurb(Paper):
    """A class of papers below Paper, with a part of its own."""

    def __init__(self, told):
        Paper.__init__(self, "blurb", told)


# Classes with these names, and with equal words and parts, that are not below Paper.
NAMESAKES = {name: type(name, (), {"word": "note", "parts": (1,)}) for name in ("Paper", "Denial")}


class Fixed(unittest.TestCase):
    def test_lists_all_the_way_in(self):
        self.assertEqual(repr(fixed([])), "()")
        self.assertEqual(repr(fixed(())), "()")
        self.assertEqual(repr(fixed([[]])), "((),)")
        self.assertEqual(repr(fixed(([1], [2, ([3, [4]], "a")]))), "((1,), (2, ((3, (4,)), 'a')))")
        self.assertEqual(fixed(value=[1]), (1,))

    def test_thirty_deep(self):
        value, wanted = 1, 1
        for depth in range(30):
            value, wanted = [value] if depth % 2 else (value,), (wanted,)
        self.assertEqual(repr(fixed(value)), repr(wanted))

    def test_other_values_stay(self):
        note = Paper("note", 1)
        for value in (None, True, False, 0, 10 ** 40, 1.5, "", "[1]", b"x", {"a": [1]}, {1, 2}, object(), int, note):
            self.assertIs(fixed(value), value)
            self.assertIs(fixed([value])[0], value)
            self.assertIs(fixed((1, [value]))[1][0], value)
        self.assertEqual(repr(fixed([{"a": [1]}])), "({'a': [1]},)")

    def test_true_and_false_stay(self):
        self.assertEqual(repr(fixed([True, [False, 1, 0]])), "(True, (False, 1, 0))")

    def test_what_is_passed_does_not_change(self):
        value = [1, [2]]
        fixed(value)
        self.assertEqual(value, [1, [2]])


class Papers(unittest.TestCase):
    def test_examples(self):
        run_examples(self, EXAMPLES, dict(vars(papers)))

    def test_words_and_parts(self):
        for made in (Paper, Denial):
            with self.subTest(made=made.__name__):
                self.assertEqual((made("note").word, made("note").parts), ("note", ()))
                self.assertEqual((made(word="note").word, made(word="note").parts), ("note", ()))
                self.assertEqual(repr(made("note", 1, [2], None, {}).parts), "(1, (2,), None, {})")
                self.assertEqual(repr(made(["no", ["te"]], 1).word), "('no', ('te',))")

    def test_truth(self):
        self.assertIs(bool(Paper("no")), True)
        self.assertIs(bool(Paper("note", False)), True)
        self.assertIs(bool(Denial("yes")), False)
        self.assertIs(bool(Denial("yes", True)), False)
        self.assertIs(bool(Blurb(0)), True)

    def test_denials_are_papers(self):
        self.assertTrue(issubclass(Denial, Paper))
        self.assertNotIsInstance(Paper("no"), Denial)

    def test_lists_changed_afterwards(self):
        for made in (Paper, Denial):
            inner, word = [2], ["a"]
            part = [1, inner]
            note = made(word, part)
            part.append(3)
            inner[0] = 9
            word.append("b")
            self.assertEqual((note.word, note.parts), (("a",), ((1, (2,)),)))

    def test_equal(self):
        for made in (Paper, Denial):
            self.assertIs(made("note", [1, [2]], "a") == made("note", (1, (2,)), "a"), True)
            self.assertIs(made("note", [1, [2]], "a") != made("note", (1, (2,)), "a"), False)
            self.assertIs(made("note") == made("note"), True)

    def test_equal_as_python_compares(self):
        self.assertIs(Paper("note", 1, (0,)) == Paper("note", True, [False]), True)
        self.assertIs(Paper("note", 1) == Paper("note", 1.0), True)

    def test_unlike_words_and_parts(self):
        for made in (Paper, Denial):
            note = made("note", 1, 2)
            for other in (made("notes", 1, 2), made("note", 1), made("note", 1, 3), made("note", 2, 1),
                          made("note", (1, 2)), made("note", 1, 2, 3), made("note")):
                self.assertIs(note == other, False)
                self.assertIs(other == note, False)
                self.assertIs(note != other, True)

    def test_unlike_classes(self):
        for one, other in ((Paper("blurb", 1), Denial("blurb", 1)), (Paper("blurb", 1), Blurb(1)),
                           (Denial("blurb", 1), Blurb(1))):
            self.assertIs(one == other, False)
            self.assertIs(other == one, False)
            self.assertIs(one != other, True)
            self.assertIs(other != one, True)
        self.assertIs(Blurb([1]) == Blurb((1,)), True)

    def test_other_values(self):
        for note in (Paper("note", 1), Denial("note", 1)):
            for other in ("note", ("note", (1,)), ("note", 1), None, True, False, 0, 1, [], object()):
                self.assertIs(note == other, False)
                self.assertIs(other == note, False)

    def test_a_class_of_the_same_name_elsewhere(self):
        for note in (Paper("note", 1), Denial("note", 1)):
            stranger = NAMESAKES[note.__class__.__name__]()
            self.assertIs(note == stranger, False)
            self.assertIs(note != stranger, True)

    def test_papers_within_papers(self):
        inner = Denial("no", [1])
        self.assertIs(Paper("all", [inner]).parts[0][0], inner)
        self.assertIs(Paper("all", [Denial("no", [1])]) == Paper("all", (inner,)), True)
        self.assertIs(Paper("all", [Paper("no", [1])]) == Paper("all", [inner]), False)


if __name__ == "__main__":
    unittest.main()
