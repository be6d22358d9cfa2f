"""Books and refusals: the papers, their forms, and the ways on that they tell."""

import unittest
from itertools import product

from contests import lists, ways_bent
from examples import assert_raises, run_examples
from gapsame import books
from gapsame.books import Unwon, Won, courses, is_book, is_refusal
from gapsame.errors import BadPaper
from gapsame.likeness import Alike, Unlike
from gapsame.papers import Denial, Paper
from reference import NO_LISTS, NO_MOVES

EXAMPLES = """
>>> [is_book((((0, 0), (0, 1)), ())), is_book([[[0, 0], [0, 1]], [[[[1, 0], [1, 1]], [[[0, 1], [0, 2]], []]]]]), is_book((((0, 0), (0, 1)), None)), is_refusal([]), is_refusal([(((0, 0), (0, 1)), ()), (((0, 0), (0, 2)), None)])]
[True, True, False, True, False]
>>> courses(Won((((0, 0), (0, 1)), [(((5, 5), (5, 6)), (((0, 1), (0, 9)), ())), (((5, 5), (6, 5)), (((0, 1), (0, 7)), ()))])))
((((0, 0), (0, 1)), ((5, 5), (5, 6)), ((0, 1), (0, 9))), (((0, 0), (0, 1)), ((5, 5), (6, 5)), ((0, 1), (0, 7))))
>>> courses(Unwon([(((0, 0), (0, 1)), None), (((0, 0), (0, 2)), (((5, 5), (5, 6)), ()))]))
((((0, 0), (0, 1)),), (((0, 0), (0, 2)), ((5, 5), (5, 6))))
>>> courses(Won(5))
raises BadPaper('paper')
"""
FAR = 10 ** 40
A, B, C, D = ((0, 0), (0, 1)), ((5, 5), (-FAR, 5)), ((1, 1), (1, 1)), ((0, 0), (FAR, FAR))
BOOKS = {
    "one": (A, ()), "far": (D, ()), "with an answer": (A, ((B, (C, ())),)),
    "with three": (A, ((B, (C, ())), (B, (A, ())), (D, (D, ())))),
}
REFUSALS = {
    "none": (), "one": ((A, ()),), "three": ((A, ()), (A, ()), (D, ())), "no answer": ((A, None),),
    "no answers": ((A, None), (B, None)),
    "answer": ((A, (B, ())),), "answers": ((A, (B, ((C, ()), (D, ())))), (B, None), (D, (A, ((A, ()),))), (C, (C, ()))),
}
NO_BOOKS = {
    "answers of answers": (A, ((B, (C, ((A, (B, ())),))),)), "none": (), "move": A, "one item": (A,),
    "three items": (A, (), ()),
    "answer without a book": (A, ((B,),)), "answer and move": (A, ((B, C),)), "answer and None": (A, ((B, None),)),
    "answer alone": (A, (B,)), "book for a pair": (A, (B, (C, ()))), "true": (((True, 0), (0, 1)), ()),
    "false": (A, ((((0, False), (0, 1)), (C, ())),)),
    "false behind": (A, ((B, (((0, 0), (0, False)), ())),)), "None": (A, None), "number": (A, 0),
    "pairs and None": (A, ((B, (C, ())), None)),
    "refusal": ((A, ()),), "none behind": (A, ((B, ()),)), "one too many": (A, ((B, (C, ()), ()),)), "string": (A, ""),
    "text": "((0, 0), (0, 1)), ()",
}
NO_REFUSALS = {
    "mixed with None": ((A, ()), (B, None)), "mixed with a pair": ((A, (B, ())), (C, ())), "one item": ((A,),),
    "three items": ((A, (), ()),),
    "a move": (A,), "nothing": ((),), "None": (None,), "true": ((((0, 0), (0, True)), ()),),
    "true in an answer": ((A, (((True, 0), (0, 0)), ())),),
    "true behind": ((A, (B, ((((0, 0), (True, 0)), ()),))),), "replies behind": ((A, (B, ((C, (D, ())),))),),
    "None behind": ((A, (B, ((C, None),))),),
    "None for a refusal": ((A, (B, None)),), "answer alone": ((A, (B,)),), "answer as it is": ((A, B),),
    "book": (A, ()), "string": ((A, ""),),
    "zero": ((A, 0),), "false": ((A, False),), "answer and two": ((A, (B, (), ())),), "dict": ((A, {}),),
    "empty string": "",
}


class Subwon(Won):
    """A class of its own, below Won."""


class Subunwon(Unwon):
    """A class of its own, below Unwon."""


def has_book_form(value, depth=2):
    """Whether it has the form of a book whose books have no answers, told once more."""
    if not is_pair_with_move(value) or not isinstance(value[1], (list, tuple)):
        return False
    return all(depth > 1 and is_pair_with_move(pair) and has_book_form(pair[1], depth - 1) for pair in value[1])


def has_refusal_form(value):
    if not isinstance(value, (list, tuple)) or not all(is_pair_with_move(pair) for pair in value):
        return False
    replies = [pair[1] for pair in value]
    if all(lists(reply) == [] for reply in replies):
        return True
    return all(reply is None or is_pair_with_move(reply) and isinstance(reply[1], (list, tuple)) and all(
        is_pair_with_move(pair) and lists(pair[1]) == [] for pair in reply[1]) for reply in replies)


def is_pair_with_move(value):
    def is_pair(there):
        return isinstance(there, (list, tuple)) and len(there) == 2
    return is_pair(value) and is_pair(value[0]) and all(is_pair(square) for square in value[0]) and all(
        isinstance(part, int) and not isinstance(part, bool) for square in value[0] for part in square)


class Forms(unittest.TestCase):
    def test_examples(self):
        run_examples(self, EXAMPLES, dict(vars(books)))

    def test_books(self):
        for name, book in BOOKS.items():
            with self.subTest(book=name):
                self.assertIs(is_book(book), True)
                self.assertIs(is_book(lists(book)), True)
                self.assertIs(is_book(value=[book[0], list(book[1])]), True)
                self.assertIs(is_refusal([book[0], book[1]]), False)
        for name, value in (*NO_BOOKS.items(), *REFUSALS.items(), *enumerate(NO_LISTS), *enumerate(NO_MOVES)):
            with self.subTest(no_book=name):
                self.assertIs(is_book(value), False)
                self.assertIs(is_book(lists(value)), False)

    def test_refusals(self):
        for name, refusal in REFUSALS.items():
            with self.subTest(refusal=name):
                self.assertIs(is_refusal(refusal), True)
                self.assertIs(is_refusal(lists(refusal)), True)
                self.assertIs(is_refusal(value=list(refusal)), True)
        for name, value in (*NO_REFUSALS.items(), *BOOKS.items(), *enumerate(NO_LISTS)):
            with self.subTest(no_refusal=name):
                self.assertIs(is_refusal(value), False)
                self.assertIs(is_refusal(lists(value)), False)

    def test_no_moves_within(self):
        for value in NO_MOVES:
            for book in ((value, ()), (A, ((value, (C, ())),)), (A, ((B, (value, ())),))):
                self.assertIs(is_book(book), False)
            for refusal in (((value, ()),), ((value, None),), ((A, (value, ())),), ((A, (B, ((value, ()),))),)):
                self.assertIs(is_refusal(refusal), False)

    def test_papers_are_no_books(self):
        for value in (Won(BOOKS["one"]), Unwon(()), Won, Paper("book", A)):
            self.assertIs(is_book(value), False)
            self.assertIs(is_refusal(value), False)
            self.assertIs(is_refusal([value]), False)

    def test_bent_in_each_place(self):
        others = ((), None, 0, True, A, (A, ()), ((A, ()),))
        counts = [0, 0]
        for value in (BOOKS["with an answer"], BOOKS["with three"], REFUSALS["three"], REFUSALS["answers"]):
            for bent in ways_bent(value, others):
                is_form = has_book_form(bent), has_refusal_form(bent)
                counts[any(is_form)] += 1
                self.assertEqual((is_book(bent), is_refusal(bent)), is_form, bent)
                self.assertEqual((is_book(lists(bent)), is_refusal(lists(bent))), is_form, bent)
                for paper, is_right in ((Won(bent), is_form[0]), (Unwon(bent), is_form[1])):
                    if is_right:
                        self.assertIsInstance(courses(paper), tuple)
                    else:
                        assert_raises(self, BadPaper("paper"), courses, paper)
        self.assertGreater(min(counts), 50)


class Courses(unittest.TestCase):
    def test_books(self):
        wanted = {"one": ((A,),), "far": ((D,),), "with an answer": ((A, B, C),),
                  "with three": ((A, B, C), (A, B, A), (A, D, D))}
        for name, book in BOOKS.items():
            self.assertEqual(courses(Won(book)), wanted[name])
            self.assertEqual(courses(paper=Won(lists(book))), wanted[name])

    def test_refusals(self):
        wanted = {
            "none": (), "one": ((A,),), "three": ((A,), (A,), (D,)), "no answer": ((A,),), "no answers": ((A,), (B,)),
            "answer": ((A, B),), "answers": ((A, B, C), (A, B, D), (B,), (D, A, A), (C, C)),
        }
        for name, refusal in REFUSALS.items():
            self.assertEqual(courses(Unwon(refusal)), wanted[name])
            self.assertEqual(courses(Unwon(lists(refusal))), wanted[name])

    def test_refused(self):
        papers = [Won(REFUSALS["answers"]), Unwon(BOOKS["one"]), Unwon(BOOKS["with an answer"]),
                  Paper("won", BOOKS["one"]), Denial("unwon", ()),
                  Alike(), Unlike("turn"), Unlike(()), Won(Won(BOOKS["one"])), Unwon(Unwon(())), Subwon(BOOKS["one"]),
                  Subunwon(())]
        papers += [Won(value) for value in NO_BOOKS.values()] + [Unwon(value) for value in NO_REFUSALS.values()]
        papers += [Won(value) for value in NO_LISTS] + [Unwon(value) for value in NO_LISTS]
        for value in (*papers, *NO_LISTS, *BOOKS.values(), *REFUSALS.values(), Won, Unwon):
            assert_raises(self, BadPaper("paper"), courses, value)


class Papers(unittest.TestCase):
    def test_parts(self):
        inner = [[list(A[0]), list(A[1])], []]
        won, unwon = Won(inner), Unwon([[A, None]])
        inner.append(5)
        self.assertEqual((won.word, won.parts, won.book), ("won", ((A, ()),), (A, ())))
        self.assertEqual((unwon.word, unwon.parts, unwon.replies), ("unwon", (((A, None),),), ((A, None),)))
        self.assertEqual(Won(book=5).book, 5)
        self.assertEqual(Unwon(replies=[5, [None]]).replies, (5, (None,)))

    def test_truth(self):
        for value in ((), None, False, (A, ())):
            self.assertIs(bool(Won(value)), True)
            self.assertIs(bool(Unwon(value)), False)
        self.assertTrue(issubclass(Won, Paper) and not issubclass(Won, Denial) and issubclass(Unwon, Denial))

    def test_equal(self):
        papers = [Won(()), Unwon(()), Won((A, ())), Unwon((A, ())), Paper("won", ()), Denial("unwon", ()), Won(None),
                  Subwon(()), Denial("won", ())]
        for (at, one), (there, other) in product(enumerate(papers), repeat=2):
            self.assertIs(one == other, at == there)
            self.assertIs(one != other, at != there)
        self.assertIs(Won([[(0, 0), [0, 1]], []]) == Won((A, ())), True)
        self.assertIs(Unwon([[A, None]]) == Unwon(((A, None),)), True)
        self.assertIs(Won([True]) == Won((1,)), True)


if __name__ == "__main__":
    unittest.main()
