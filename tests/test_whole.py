"""The whole program: its interface, all examples in a row, all papers beside one another, and all ways combined."""

import ast
import importlib
import inspect
import random
import unittest
from itertools import product

import test_books
import test_check_wins
import test_checks
import test_chosen
import test_desk
import test_families
import test_games
import test_kinds
import test_likeness
import test_lines
import test_matching
import test_moves
import test_papers
import test_pictures
import test_plays
import test_positions
import test_strikes
import test_turns
import test_wins
from contests import FAR, is_right_book, is_right_refusal, some_contests, some_holds, spread
from examples import run_examples
from gapsame.books import Unwon, Won, courses
from gapsame.check_wins import shows_win
from gapsame.desk import Desk
from gapsame.errors import FieldError
from gapsame.families import Family, family, grown, shows_family, tells
from gapsame.likeness import Alike, Unlike, alike, cut
from gapsame.moves import done, reached
from gapsame.papers import Denial, Paper
from gapsame.plays import Play, carried
from gapsame.positions import Position
from gapsame.turns import mirrored, moved, turned
from gapsame.wins import is_won, judged
from reference import gaps_along

# In the order in which the document has them; names that a module needs were made by an earlier one.
TOLD = (test_checks, test_papers, test_kinds, test_games, test_positions, test_strikes, test_moves, test_lines,
        test_likeness, test_matching,
        test_chosen, test_books, test_wins, test_check_wins, test_plays, test_families, test_turns, test_pictures,
        test_desk)
# Each class and function with the names of its parameters; a default value behind a sign.
INTERFACE = {
    "errors": {
        "FieldError": None, "NoName": "value", "Twice": "value", "TooMany": "what most", "Nothing": "", "Over": "",
        "BadText": "line item",
        "BadLine": "line error", **dict.fromkeys("BadNumber BadSquare BadKind BadGame BadPosition BadMove BadPlay BadPaper BadWords Misfit".split(), "part"),
    },
    "checks": {"is_integer": "value", "is_within": "value least most", "is_square": "value", "is_move": "value",
               "is_name": "value"},
    "papers": {"Paper": "word parts", "Denial": "word parts", "fixed": "value"},
    "kinds": {"Kind": "name leaps rides=() is_lord=False", "steps_of": "kind"},
    "games": {"Game": "kinds edges=(None,None,None,None) goal=('hold',)", "on_field": "game square", "longest": "game",
              "bound": "game m"},
    "positions": {"Position": "game pieces stones=() turn=0", "at": "position square", "lord_at": "position hand"},
    "strikes": {"struck": "position square hand", "strikers": "position square hand"},
    "moves": {"may_go": "position move", "is_let": "position move", "goes": "position square", "done": "position move",
              "is_held": "position",
              "is_still": "position", "reached": "position"},
    "lines": {"columns_of": "position", "rows_of": "position", "gaps_of": "position", "stands_of": "position",
              "laid": "position columns rows"},
    "likeness": {"Alike": "", "Unlike": "part", "alike": "one other m", "alike_to": "one other", "cut": "position m"},
    "matching": {"matched": "one other m move", "is_matched": "one other m move value"},
    "chosen": {"chosen_moves": "position m", "chosen_for": "position m move", "are_chosen": "position m value"},
    "books": {"Won": "book", "Unwon": "replies", "is_book": "value", "is_refusal": "value", "courses": "paper"},
    "wins": {"is_won": "position n", "judged": "position n"},
    "check_wins": {"shows_win": "position n value"},
    "plays": {"carried": "one other n paper", "Play": "position n"},
    "families": {"grown": "position axis index gap", "Family": "papers", "family": "position axis index n",
                 "shows_family": "position axis index n value", "tells": "paper gap", "settled": "paper"},
    "turns": {"turned": "position", "mirrored": "position", "moved": "position across up",
              "gone_along": "move how across=0 up=0"},
    "pictures": {"picture": "position square wide high"},
    "desk": {"Desk": ""},
}
METHODS = {
    "Paper": "__eq__ __bool__", "Denial": "__eq__ __bool__", "Kind": "__eq__ __str__ read",
    "Game": "__eq__ __str__ read kind",
    "Position": "__eq__ __str__ read", "Play": "reply tell", "Desk": "__eq__ __len__ told back again twin",
}


def members(name):
    return vars(importlib.import_module("gapsame." + name))


class Interface(unittest.TestCase):
    def test_defined_where_they_are_listed(self):
        for name, listed in INTERFACE.items():
            tree = ast.parse(inspect.getsource(importlib.import_module("gapsame." + name)))
            there = {node.name: node for node in tree.body if isinstance(node, (ast.FunctionDef, ast.ClassDef))}
            for word, parameters in listed.items():
                with self.subTest(name=name, word=word):
                    self.assertIn(word, there)
                    self.assertEqual(isinstance(there[word], ast.ClassDef), word[0].isupper())
                    methods = [node.name for node in there[word].body if isinstance(node, ast.FunctionDef)]
                    self.assertLessEqual(set(METHODS.get(word, "").split()), set(methods))
                    if parameters is not None:
                        self.assert_parameters(members(name)[word], parameters)

    def assert_parameters(self, function, parameters):
        told = inspect.signature(function).parameters.values()
        found = [one.name if one.default is one.empty else f"{one.name}={one.default!r}" for one in told]
        self.assertEqual(" ".join([word.replace(" ", "") for word in found]), parameters)

    def test_all_examples_one_behind_another(self):
        names = {}
        for name, listed in INTERFACE.items():
            names.update({word: members(name)[word] for word in listed})
        for module in TOLD:
            with self.subTest(module=module.__name__):
                run_examples(self, module.EXAMPLES, names)

    def test_errors_are_below_one(self):
        for word in INTERFACE["errors"]:
            made = members("errors")[word]
            self.assertTrue(issubclass(made, FieldError))
            self.assertEqual(made.__bases__, (ValueError,) if word == "FieldError" else (FieldError,))


class Papers(unittest.TestCase):
    def test_all_classes_beside_one_another(self):
        parts = ((), (1,), (True,), "game", ((), ()))
        made = [Alike()] + [kind(part) for part in parts for kind in (Unlike, Won, Unwon, Family)]
        words = ("alike", "unlike", "won", "unwon", "family")
        made += [paper(word, *part) for paper in (Paper, Denial) for word in words for part in ((), ((),), ("game",))]
        for one, other in product(made, repeat=2):
            is_same = type(one) is type(other) and one.word == other.word and one.parts == other.parts
            self.assertIs(one == other, is_same)
            self.assertIs(one != other, not is_same)
        self.assertIs(Won((1, 0)) == Won([True, False]), True)
        self.assertIs(Family([Won(1)]) == Family([Won(True)]), True)
        self.assertIs(Family([Won(1)]) == Family([Unwon(1)]), False)

    def test_words_parts_and_truth(self):
        for paper, word, part, is_true in ((Unlike([1]), "unlike", "part", False), (Won([1]), "won", "book", True),
                                           (Unwon([1]), "unwon", "replies", False),
                                           (Family([1]), "family", "papers", True)):
            self.assertEqual((paper.word, paper.parts, getattr(paper, part)), (word, ((1,),), (1,)))
            self.assertIs(bool(paper), is_true)
            self.assertIsInstance(paper, Paper)
            self.assertIs(isinstance(paper, Denial), not is_true)
            self.assertTrue(type(paper)(**{part: (1,)}) == paper)
        self.assertEqual((Alike().word, Alike().parts, bool(Alike())), ("alike", (), True))

    def test_true_and_false_stand_for_no_number(self):
        move = ((1, 0), (0, 1))
        for book in (((True, 0), (0, 1)), ((1, False), (0, 1)), ((1, 0), (0, True))):
            self.assertTrue(Won((book, ())) == Won((move, ())))
            self.assertIs(Won((book, ())).book[0] == move, True)
            for paper in (Won((book, ())), Unwon([(book, ())]), Unwon([(book, None)])):
                with self.assertRaises(FieldError):
                    courses(paper)
        self.assertEqual(courses(Won((move, ()))), ((move,),))

    def test_of_no_classes_of_their_own(self):
        class Other(Won):
            """Below Won, but not made by calling it."""

        book = ((1, 0), (0, 1)), ()
        self.assertFalse(Other(book) == Won(book))
        with self.assertRaises(FieldError):
            tells(Family([Other(book)]), 1)


class Ways(unittest.TestCase):
    """Books, plays and families of positions that were turned, mirrored, moved, cut, spread, grown, one behind another."""

    def some_way(self, chance, position, n):
        """The position gone some ways, on each of which just the same is won."""
        for _ in range(chance.randint(1, 4)):
            way = chance.choice(["turned", "mirrored", "moved", "cut", "spread", "read", "desk"])
            if way == "turned":
                position = turned(position)
            elif way == "mirrored":
                position = mirrored(position)
            elif way == "moved":
                position = moved(position, chance.choice([-3, 0, FAR]), chance.choice([7, -FAR]))
            elif way == "cut":
                position = cut(position, 2 * n)
            elif way == "spread":
                position = spread(chance, position, 2 * n)
            elif way == "read":
                position = Position.read(str(position))
            else:
                position = self.at_a_desk(chance, position, n)
        return position

    def at_a_desk(self, chance, position, n):
        """The position set up at a desk, and gone some ways there."""
        desk = Desk()
        rows = str(position).split("\n")
        for row in rows:
            desk.told(row)
        self.assertEqual(desk.told("text"), " / ".join(rows))
        for order in chance.sample(["quarter", "mirror", "shift 3 -8", f"cut {2 * n}", "keep near", "quarter"], 3):
            desk.told(order)
        self.assertEqual(desk.told(f"wins {n}"), "yes" if is_won(position, n) else "no")
        return Position.read(desk.told("text").replace(" / ", "\n"))

    def test_won_alike(self):
        chance, counts = random.Random(1001), [0, 0]
        for n, many in ((1, 60), (2, 25)):
            positions = some_contests(chance, many, 3, (1, 1, 2, 40, FAR))
            positions += some_holds(chance, many, (0, 1, 2, 40, 50, FAR))
            for position in positions:
                wanted = is_won(position, n)
                counts[wanted] += 1
                other = self.some_way(chance, position, n)
                paper = judged(other, n)
                self.assertIs(bool(paper), wanted)
                self.assertIs(shows_win(other, n, paper), True)
                if n == 1:
                    check = is_right_book if paper else is_right_refusal
                    self.assertTrue(check(other, 1, paper.parts[0]))
                if wanted:
                    self.assert_played(chance, other, n)
        self.assertGreater(min(counts), 15)

    def assert_played(self, chance, position, n):
        """That a book is carried to a field where all is far apart, and a play there is won."""
        far = spread(chance, position, 2 * n)
        self.assertTrue(alike(position, far, 2 * n))
        self.assertIs(shows_win(far, n, carried(position, far, n, judged(position, n))), True)
        play, later = Play(far, n), far
        for at, move in enumerate(chance.choice(courses(judged(far, n)))):
            self.assertFalse(play.is_over)
            if at == 1:
                play.tell(move)
            else:
                move = play.reply()
            later = done(later, move)
            self.assertTrue(play.position == later)
        self.assertIs(play.is_over and reached(later), True)

    def test_families_along(self):
        """Turned, the rows of a position are its columns; moved, mirrored, and grown at its gap, a family stays as it is."""
        chance = random.Random(1002)
        for position in some_holds(chance, 10, (0, 1, 2, 9, FAR)):
            index = chance.randrange(len(gaps_along(position, 1)))
            told = family(position, "rows", index, 1)
            signs = [bool(paper) for paper in told.papers]
            other = turned(turned(turned(position)))
            for there, axis in ((moved(position, FAR, -5), "rows"), (mirrored(position), "rows"), (other, "columns"),
                                (grown(position, "rows", index, FAR), "rows")):
                paper = family(there, axis, index, 1)
                self.assertEqual([bool(one) for one in paper.papers], signs)
                self.assertIs(shows_family(there, axis, index, 1, paper), True)
            self.assertIs(tells(told, gaps_along(position, 1)[index]), is_won(position, 1))
            self.assertIs(shows_family(grown(position, "rows", index, 77), "rows", index, 1, told), True)


if __name__ == "__main__":
    unittest.main()
